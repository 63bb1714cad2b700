/- A part of the proof. -/
import Derived.Test.YtmgeglgboadfiaaGreatDoorV1
import Derived.Deep.RegionWith
import Derived.Laws.OwnMore
import Derived.Lib.SliceRun
import Derived.Deep.AppendLies
import Derived.Deep.DeepCutAuto
set_option linter.unusedVariables false
set_option maxRecDepth 20000
set_option maxHeartbeats 4000000
namespace Go.Proofs.YtmgeglgboadfiaaGreatDoor
open Go.RowKit
def zGa(n:Nat)(f:Nat->zL)(s:zL):Prop:=∀i,i<8->zAX n f s.zRi (s.ks i) (s.kb i) (s.ks i) (s.kb i)
theorem zBg.uniq{n:Nat}{f:Nat->zL}{x ps pb bA aA:Int}(h:zBg n f x ps pb)(h':zBg n f x bA aA):ps=bA/\pb=aA:=by
 rcases h with⟨a,b,c,rfl,rfl⟩ | ⟨a,rfl,rfl⟩<;>rcases h' with⟨a',b',c',rfl,rfl⟩ | ⟨a',rfl,rfl⟩
 ·exact⟨rfl,rfl⟩
 ·exact absurd ⟨a,b,c⟩ a'
 ·exact absurd ⟨a',b',c'⟩ a
 ·exact⟨rfl,rfl⟩
theorem zAX.uniq{n:Nat}{f:Nat->zL}{b ks kb rs rb aA bA:Int}(h:zAX n f b ks kb rs rb)(h':zAX n f b ks kb aA bA):rs=aA/\rb=bA:=by
 obtain⟨ps,pb,hp,h⟩:=h;obtain⟨eA,dA,cA,h'⟩:=h';obtain⟨rfl,rfl⟩:=hp.uniq cA;rcases h with⟨a,rfl,rfl⟩ | ⟨a,rfl,rfl⟩<;>rcases h' with⟨a',rfl,rfl⟩ | ⟨a',rfl,rfl⟩
 ·exact⟨rfl,rfl⟩
 ·exact absurd a a'
 ·exact absurd a' a
 ·exact⟨rfl,rfl⟩
theorem zJW(g:Nat->Int)(k:Nat)(hk:k<8)(x y:Int):((zp g).setIfInBounds (k*2) (.int .i64 x)).setIfInBounds (k*2+1) (.int .i64 y)=zp (fun j=>if j=k*2 then x else if j=k*2+1 then y else g j):=by
 apply Array.ext_getElem?;intro i;rw[Array.getElem?_setIfInBounds,Array.getElem?_setIfInBounds];simp only[Array.size_setIfInBounds,qB];by_cases aA:i<16
 ·rw[yO _ aA,yO _ aA];by_cases e1:k*2+1=i
  ·subst e1;rw[if_pos rfl,if_pos (by omega),if_neg (by omega),if_pos rfl]
  ·rw[if_neg e1];by_cases e0:k*2=i
   ·subst e0;rw[if_pos rfl,if_pos (by omega),if_pos rfl]
   ·rw[if_neg e0,if_neg (by omega),if_neg (by omega)]
 ·have n1:(zp g)[i]?=none:=Array.getElem?_eq_none (by rw[qB];omega);have n2:(zp (fun j=>if j=k*2 then x else if j=k*2+1 then y else g j))[i]?=none:=Array.getElem?_eq_none (by rw[qB];omega);rw[n1,n2,if_neg (by omega),if_neg (by omega)]
theorem zOF(g:Nat->Int)(k:Nat)(hk:k<8)(w:World):(Instr.index 155 (.agg (zp g)) (.int .i64 (k:Int))).run Tryz.prog w = .ok (.agg #[.int .i64 (g (k*2)),.int .i64 (g (k*2+1))]) w:=by
 rcases(by omega:k=0\/k=1\/k=2\/k=3\/k=4\/k=5\/k=6\/k=7)with rfl | rfl | rfl | rfl | rfl | rfl | rfl | rfl
 all_goals kernel_rfl
theorem zPn(g:Nat->Int)(k:Nat)(hk:k<8)(w:World):(part 61 (zp g) (k*2)).run Tryz.prog w = .ok (.agg #[.int .i64 (g (k*2)),.int .i64 (g (k*2+1))]) w:=by
 rcases(by omega:k=0\/k=1\/k=2\/k=3\/k=4\/k=5\/k=6\/k=7)with rfl | rfl | rfl | rfl | rfl | rfl | rfl | rfl
 all_goals kernel_rfl
theorem zQA(d:Nat)(a b c e:Int)(w:World):(Op.equalIn (d+2) 61 (.agg #[.int .i64 a,.int .i64 b]) (.agg #[.int .i64 c,.int .i64 e])).run Tryz.prog w = .ok (a == c && b == e) w:=by
 by_cases h1:a=c<;>by_cases h2:b=e
 all_goals simp[go_sem,h1,h2]
theorem zQK(w:World):(sizeOf 61).run Tryz.prog w = .ok 2 w:=by kernel_rfl
theorem zJl{P:Program}(b:Nat->Bool)(F:Nat->Option Bool×Unit->Sem (ForInStep (Option Bool×Unit))):∀(L:List Nat) (w:World),(∀i∈L,∀s w,(F i s).run P w = .ok (if b i then .yield (none,())else .done (some false,())) w)->
  (forIn L (none,()) F).run P w = .ok (if L.all b then(none,())else(some false,())) w
 | [],w,_=>by simp[Sem.run_pure]
 | i :: L,w,hF=>by
  simp only[List.forIn_cons,Sem.run_bind,hF i (by simp),Result.andThen_ok,List.all_cons];by_cases hb:b i=true
  ·simp only[hb,if_true,Bool.true_and];exact zJl b F L w (fun j hj=>hF j (by simp[hj]))
  ·simp[hb,Sem.run_pure]
def zGn(g h:Nat->Int):Bool:=(List.range 8).all fun i=>g (i*2) == h (i*2) && g (i*2+1) == h (i*2+1)
theorem zIc(g h:Nat->Int):zGn g h=true↔∀i,i<8->g (i*2)=h (i*2)/\g (i*2+1)=h (i*2+1):=by
 simp[zGn,List.all_eq_true]
theorem zOh(g h:Nat->Int)(d:Nat)(w:World):(Op.equalIn (d+3) 155 (.agg (zp g)) (.agg (zp h))).run Tryz.prog w = .ok (zGn g h) w:=by
 rw[Op.equalIn];simp only[Sem.run_bind,run_underlying zHM,Result.andThen_ok,zQK];rw[Std.Legacy.Range.forIn_eq_forIn_range'];have e:=zJl (P:=Tryz.prog) (fun i=>g (i*2) == h (i*2) && g (i*2+1) == h (i*2+1)) (fun i (bA:Option Bool×Unit)=>do
      let __do_lift <-part 61 (zp g) (i*2)
      let __do_lift_1 <-part 61 (zp h) (i*2)
      let __do_lift <-Op.equalIn (d+2) 61 __do_lift __do_lift_1
      if (!__do_lift)=true then pure (ForInStep.done (some false,()))else pure (ForInStep.yield (none,()))) (List.range 8) w (fun i hi s w=>by
   have aA:i<8:=(by simpa using hi);simp only[Sem.run_bind,zPn _ i aA,Result.andThen_ok,zQA];cases (g (i*2) == h (i*2) && g (i*2+1) == h (i*2+1))<;>simp[Sem.run_pure])
 have e2:List.range' 0 (([:8]:Std.Legacy.Range).size) ([:8]:Std.Legacy.Range).step=List.range 8:=by rfl
 rw[e2,e];simp only[Result.andThen_ok];unfold zGn;cases ((List.range 8).all fun i=>g (i*2) == h (i*2) && g (i*2+1) == h (i*2+1))<;>simp[Sem.run_pure]
theorem zKh(g h:Nat->Int)(w:World):(binOp .eql 155 (.agg (zp g)) (.agg (zp h))).run Tryz.prog w = .ok (.bool (zGn g h)) w:=by
 rw[run_eql_struct,zOh g h 9997];rfl
theorem zIw(v v0 v1 v2:Value)(n lo hi lo' hi':Nat)(f:Nat->zL)(s:zL)(w:World)(h1:qA w lo hi v n f)(h2:qH w lo' hi' v0 v1 v2 s)(hk:s.kn=8) :
  Calls Tryz.prog 200 #[v,.agg #[v0,v1,v2]] w fun e w'=>zG (zGa n f s) e/\Below w.heap.size w w':=by
 have Hv:Hid (qA w lo hi v n f):=h1;obtain⟨m1,a,c,rfl,mc,g1⟩:=h1;have Hs:Hid (qH w lo' hi' v0 v1 v2 s):=h2;obtain⟨rfl,⟨m2,ka,kc,rfl,gB,g2⟩,rfl,m3⟩:=h2;have Hk:Hid (s.kn=8):=hk;clear g1 g2 hk;go_enter Tryz.func200,Tryz.ntmps200;go_wp2_with fail;have gA:=zC w (.cells #[.int .i64 s.zRi,.slice ka s.kn kc,.string s.data] 127);refine(zDp _ _ _ lo' hi' s _ (Hs.out.zRX gA) (Or.inr Hk.out)).mono ?_;rintro e w1 ⟨rfl,kA⟩;have Hx:Hid (yR w1 w.heap.size (.int .i64 s.zRi) (.slice ka s.kn kc) (.string s.data)):=(yR.zRZ w _ _ _ _).zRX kA;have sA:=zA gA kA;have aA:Hid ((Tryz.prog.info? 155).map (·.size)=some (qF s).size):=by
  show _=_;rw[qF,qB];exact zBy
 clear gA kA;have pA:(#[Value.int .i64 0,Value.int .i64 0,Value.int .i64 0,Value.int .i64 0,Value.int .i64 0,Value.int .i64 0,Value.int .i64 0,Value.int .i64 0,Value.int .i64 0,Value.int .i64 0,Value.int .i64 0,Value.int .i64 0,Value.int .i64 0,Value.int .i64 0,Value.int .i64 0,Value.int .i64 0]:Array Value)=zp (fun _=>0):=rfl;have iA:Hid ((#[Value.int .i64 0,Value.int .i64 0,Value.int .i64 0,Value.int .i64 0,Value.int .i64 0,Value.int .i64 0,Value.int .i64 0,Value.int .i64 0,Value.int .i64 0,Value.int .i64 0,Value.int .i64 0,Value.int .i64 0,Value.int .i64 0,Value.int .i64 0,Value.int .i64 0,Value.int .i64 0]:Array Value)=zp (fun _=>0)):=pA;clear pA;go_wp2_with (first
  | (refine wpList_store_row rfl 155 (.tmp 5) (.tmp 10) rfl w1.heap.size (qF s) rfl rfl 155 #[Value.int .i64 0,Value.int .i64 0,Value.int .i64 0,Value.int .i64 0,Value.int .i64 0,Value.int .i64 0,Value.int .i64 0,Value.int .i64 0,Value.int .i64 0,Value.int .i64 0,Value.int .i64 0,Value.int .i64 0,Value.int .i64 0,Value.int .i64 0,Value.int .i64 0,Value.int .i64 0] (heap_alloc_last _ _) aA.out (by rw[qF,qB];rfl) (zAq _) ?_;rw[World.setRow_alloc_new])
  | (refine wpList_load_row rfl 155 (.tmp 5) rfl w1.heap.size rfl 155 (qF s) (0,0) _ ?hh zHM rfl aA.out ?_;(exact(Below.heap_alloc _ _ _ (by simp)).trans (heap_alloc_last _ _))))
 have bB:w.heap.size<w1.heap.size:=Hx.out.1.lt
 go_loopw [12] (fun i wr=>∃(k:Nat) (g:Nat->Int),k<=8/\i = .int .i64 k/\(∀j,j<k->zAX n f s.zRi (s.ks j) (s.kb j) (g (j*2)) (g (j*2+1)))/\yR wr w.heap.size (.int .i64 s.zRi) (.slice ka s.kn kc) (.string s.data)/\
   wr.heap[w1.heap.size]?=some (.cells (qF s) 155 (0,0))/\wr.heap[w1.heap.size+1]?=some (.cells (zp g) 155 (0,0))/\Below w.heap.size w wr) (fun i _=>8 - (intOf i).toNat)
 case atStart=>
  refine⟨0,fun _=>0,Nat.zero_le _,rfl,fun j hj=>absurd hj (Nat.not_lt_zero _),(Hx.out.zRX (zC _ _)).zRX (zC _ _),?_,?_,zA (zA sA (zC _ _)) (zC _ _)⟩
  ·exact(Below.heap_alloc _ _ _ (by simp)).trans (heap_alloc_last _ _)
  ·have:=heap_alloc_last (w1.alloc (.cells (qF s) 155)) (.cells #[Value.int .i64 0,Value.int .i64 0,Value.int .i64 0,Value.int .i64 0,Value.int .i64 0,Value.int .i64 0,Value.int .i64 0,Value.int .i64 0,Value.int .i64 0,Value.int .i64 0,Value.int .i64 0,Value.int .i64 0,Value.int .i64 0,Value.int .i64 0,Value.int .i64 0,Value.int .i64 0] 155);rw[World.size_alloc]at this;rw[this,iA.out]
 case round=>
  obtain⟨k,g,hk,rfl,dA,hx,hK,hF,hb⟩:=hrel;have bA:Hid (∀j,j<k->zAX n f s.zRi (s.ks j) (s.kb j) (g (j*2)) (g (j*2+1))):=dA;have HX:Hid (yR wr w.heap.size (.int .i64 s.zRi) (.slice ka s.kn kc) (.string s.data)):=hx;have HK:Hid (wr.heap[w1.heap.size]?=some (.cells (qF s) 155 (0,0))):=hK;have HF:Hid (wr.heap[w1.heap.size+1]?=some (.cells (zp g) 155 (0,0))):=hF;clear dA hx hK hF;have eA:w1.heap.size+1<wr.heap.size:=(Array.getElem?_eq_some_iff.1 HF.out).1;by_cases rA:k<8
  ·have cB:(k:Int)<8:=(by omega);have mA:∀w,(Instr.index 155 (.agg (qF s)) (.int .i64 (k:Int))).run Tryz.prog w = .ok (.agg #[.int .i64 (s.ks k),.int .i64 (s.kb k)]) w:=fun w=>by
    have e:=zOF (zj s) k rA w;have e0:zj s (k*2)=s.ks k:=(by unfold zj;rw[if_pos (by have:=Hk.out;omega),if_pos (by omega),show k*2 / 2=k by omega]);have e1:zj s (k*2+1)=s.kb k:=(by unfold zj;rw[if_pos (by have:=Hk.out;omega),if_neg (by omega),show(k*2+1) / 2=k by omega]);rw[e0,e1]at e;exact e
   obtain⟨⟨x0,x1⟩,⟨x2,x3⟩,⟨x4,x5⟩⟩:=HX.out;have fB:w.heap.size<wr.heap.size:=(by omega);go_wp2_with fail;have jA:=zC wr (.cells #[.int .i64 (s.ks k),.int .i64 (s.kb k)] 61);refine(zKU _ n lo hi f _ _ _ _ (Hv.out.zRX (zA hb jA))).mono ?_;rintro e w2 ⟨⟨rs,rb,rfl,nA⟩,oA⟩;have dB:Hid (zAX n f s.zRi (s.ks k) (s.kb k) rs rb):=nA;have cA:=zA jA oA;have fA:Hid (w2.heap[w1.heap.size+1]?=some (.cells (zp g) 155 (0,0))):=(cA.block _ eA).trans HF.out;have aB:Hid (w2.heap[w1.heap.size]?=some (.cells (qF s) 155 (0,0))):=(cA.block _ (by omega)).trans HK.out;have vA:Hid (yR w2 w.heap.size (.int .i64 s.zRi) (.slice ka s.kn kc) (.string s.data)):=HX.out.zRX cA;have eB:=zA hb cA;clear nA oA jA cA x0 x1 x2 x3 x4 x5 mA HF HK HX hb;obtain⟨y0,y1⟩:=zJ (i:=k*2) fA.out (yO g (by omega));obtain⟨y2,y3⟩:=zJ (i:=k*2+1) fA.out (yO g (by omega));go_wp2;go_roundw
   case rel=>
    refine⟨k+1,fun j=>if j=k*2 then rs else if j=k*2+1 then rb else g j,by omega,by go_num,fun j hj=>?_,(vA.out.zRY _ (by omega)).zRY _ (by omega),?_,?_,(eB.setCell (by show _<=w1.heap.size+1;omega) _).setCell (by show _<=w1.heap.size+1;omega) _⟩
    ·by_cases e:j=k
     ·subst e;simp only[if_true];rw[if_neg (by omega)];exact dB.out
     ·simp only;rw[if_neg (by omega),if_neg (by omega),if_neg (by omega),if_neg (by omega)];exact bA.out j (by omega)
    ·rw[Below.heap_setCell _ _ _ _ (by show w1.heap.size≠w1.heap.size+1;omega),Below.heap_setCell _ _ _ _ (by show w1.heap.size≠w1.heap.size+1;omega)];exact aB.out
    ·have:=zAZ (o:=k*2+1) (.int .i64 rb) (zAZ (o:=k*2) (.int .i64 rs) fA.out);rw[zJW g k rA]at this;exact this
   case measure=>simp[intOf];omega
  ·obtain rfl:k=8:=(by omega);have tA:∀w,(binOp .eql 155 (.agg (zp g)) (.agg (qF s))).run Tryz.prog w = .ok (.bool (zGn g (zj s))) w:=fun w=>zKh g (zj s) w
   have lA:Hid ((Tryz.prog.info? 155).map (·.size)=some (zp g).size):=by
    show _=_;rw[qB];exact zBy
   go_wp2_with (first
    | (refine wpList_load_row rfl 155 (.tmp 6) rfl (w1.heap.size+1) rfl 155 (zp g) (0,0) _ HF.out zHM rfl lA.out ?_)
    | (refine wpList_load_row rfl 155 (.tmp 5) rfl w1.heap.size rfl 155 (qF s) (0,0) _ HK.out zHM rfl aA.out ?_))
   go_ret;refine⟨⟨_,rfl,?_⟩,hb⟩;rw[zIc];have e0:∀i,i<8->zj s (i*2)=s.ks i/\zj s (i*2+1)=s.kb i:=fun i hi=>by
    have:=Hk.out;refine⟨?_,?_⟩
    ·unfold zj;rw[if_pos (by omega),if_pos (by omega),show i*2 / 2=i by omega]
    ·unfold zj;rw[if_pos (by omega),if_neg (by omega),show(i*2+1) / 2=i by omega]
   constructor
   ·intro h i hi;have:=bA.out i hi;rw[(h i hi).1,(h i hi).2,(e0 i hi).1,(e0 i hi).2]at this;exact this
   ·intro h i hi;rw[(e0 i hi).1,(e0 i hi).2];exact(bA.out i hi).uniq (h i hi)
def zA8(n:Nat)(f:Nat->zL)(s:zL):Prop:=qE s\/zHP s\/(zK9 s/\zGa n f s)
def zGE(p:zI)(i:Nat):Prop:=¬zBg p.n p.s (p.h i) 0 0/\¬Has i p.h (p.h i)
def zQq(p:zI):Prop:=p.n<=200/\p.hn<=p.n/\(∀i,i<p.n->zA8 p.n p.s (p.s i))/\∀i,i<p.hn->zGE p i
theorem zFI(v v0 v1 v2:Value)(n lo hi lo' hi':Nat)(f:Nat->zL)(s:zL)(w:World)(h1:qA w lo hi v n f)(h2:qH w lo' hi' v0 v1 v2 s) :
  Calls Tryz.prog 158 #[v,.agg #[v0,v1,v2]] w fun e w'=>zG (zA8 n f s) e/\Below w.heap.size w w':=by
 have Hv:Hid (qA w lo hi v n f):=h1;obtain⟨m1,a,c,rfl,mc,g1⟩:=h1;have Hs:Hid (qH w lo' hi' v0 v1 v2 s):=h2;obtain⟨rfl,⟨m2,ka,kc,rfl,mA,g2⟩,rfl,m3⟩:=h2;clear g1 g2;go_enter Tryz.func158,Tryz.ntmps158;go_wp2_with fail;have iA:=zC w (.cells #[.int .i64 s.zRi,.slice ka s.kn kc,.string s.data] 127);refine(zBj _ _ _ lo' hi' s _ (Hs.out.zRX iA)).mono ?_;rintro e w1 ⟨⟨t,rfl,ht⟩,dA⟩;have Hx:Hid (yR w1 w.heap.size (.int .i64 s.zRi) (.slice ka s.kn kc) (.string s.data)):=(yR.zRZ w _ _ _ _).zRX dA;have cA:=zA iA dA;clear iA dA;by_cases hf:qE s
 ·obtain rfl:t=true:=ht.2 hf;have HF:Hid (qE s):=hf;clear ht hf;go_wp2;go_ret;exact⟨zG.yes (Or.inl HF.out),cA⟩
 ·obtain rfl:t=false:=zQ ht hf;have HF:Hid (¬qE s):=hf;clear ht hf;obtain⟨⟨x0,x1⟩,⟨x2,x3⟩,⟨x4,x5⟩⟩:=Hx.out;go_wp2_with fail;refine(zH4 _ _ _ lo' hi' s _ (Hs.out.zRX cA)).mono ?_;rintro e w2 ⟨⟨t,rfl,ht⟩,gA⟩;have fA:Hid (yR w2 w.heap.size (.int .i64 s.zRi) (.slice ka s.kn kc) (.string s.data)):=Hx.out.zRX gA;have bA:=zA cA gA;clear gA cA x0 x1 x2 x3 x4 x5 Hx;by_cases hf:zHP s
  ·obtain rfl:t=true:=ht.2 hf;have HP:Hid (zHP s):=hf;clear ht hf;go_wp2;go_ret;exact⟨zG.yes (Or.inr (Or.inl HP.out)),bA⟩
  ·obtain rfl:t=false:=zQ ht hf;have HP:Hid (¬zHP s):=hf;clear ht hf;obtain⟨⟨x0,x1⟩,⟨x2,x3⟩,⟨x4,x5⟩⟩:=fA.out;go_wp2_with fail;refine(zMS _ _ _ lo' hi' s _ (Hs.out.zRX bA)).mono ?_;rintro e w3 ⟨⟨t,rfl,ht⟩,eA⟩;have jA:Hid (yR w3 w.heap.size (.int .i64 s.zRi) (.slice ka s.kn kc) (.string s.data)):=fA.out.zRX eA;have aA:=zA bA eA;clear eA bA x0 x1 x2 x3 x4 x5 fA;by_cases hf:zK9 s
   ·obtain rfl:t=true:=ht.2 hf;have HN:Hid (zK9 s):=hf;clear ht hf;obtain⟨⟨x0,x1⟩,⟨x2,x3⟩,⟨x4,x5⟩⟩:=jA.out;go_wp2_with fail;refine(zIw _ _ _ _ n lo hi lo' hi' f s _ (Hv.out.zRX aA) (Hs.out.zRX aA) HN.out.2.1).mono ?_;rintro e w4 ⟨⟨t,rfl,ht⟩,kA⟩;have Ht:Hid (t=true↔zGa n f s):=ht;have lA:=zA aA kA;clear kA aA x0 x1 x2 x3 x4 x5 jA ht;go_wp2;go_ret;refine⟨⟨t,rfl,Ht.out.trans ⟨fun h=>Or.inr (Or.inr ⟨HN.out,h⟩),fun h=>?_⟩⟩,lA⟩;rcases h with h | h | h
    ·exact absurd h HF.out
    ·exact absurd h HP.out
    ·exact h.2
   ·obtain rfl:t=false:=zQ ht hf;have HN:Hid (¬zK9 s):=hf;clear ht hf;go_wp2;go_ret;refine⟨zG.no fun h=>?_,aA⟩;rcases h with h | h | h
    ·exact HF.out h
    ·exact HP.out h
    ·exact HN.out h.1
theorem zIz(v0 v1:Value)(lo hi:Nat)(p:zI)(w:World)(h1:zu w lo hi v0 v1 p) :
  Calls Tryz.prog 194 #[.agg #[v0,v1]] w fun e w'=>zG (∀i,i<p.hn->zGE p i) e/\Below w.heap.size w w':=by
 have Hp:Hid (zu w lo hi v0 v1 p):=h1;obtain⟨⟨m1,a,c,rfl,mc,g1⟩,⟨m2,a',c',rfl,oA,g2⟩⟩:=h1;unfold maxLen at m1 m2;clear g1 g2;go_enter Tryz.func194,Tryz.ntmps194;go_wp2
 go_loopw [8] (fun i wr=>∃k:Nat,k<=p.hn/\i = .int .i64 k/\(∀j,j<k->zGE p j)/\zc wr w.heap.size (.slice a p.n c) (.slice a' p.hn c')/\Below w.heap.size w wr) (fun i _=>p.hn - (intOf i).toNat)
 case atStart=>exact⟨0,Nat.zero_le _,rfl,fun j hj=>absurd hj (Nat.not_lt_zero _),zc.zRZ _ _ _ _,zC _ _⟩
 case round=>
  obtain⟨k,hk,rfl,bA,hx,hb⟩:=hrel;have cA:Hid (∀j,j<k->zGE p j):=bA;have Hx:Hid (zc wr w.heap.size (.slice a p.n c) (.slice a' p.hn c')):=hx;clear bA hx;obtain⟨⟨y0,y1⟩,⟨y2,y3⟩⟩:=Hx.out;by_cases eA:k<p.hn
  ·have mA:(k:Int)<(p.hn:Int):=(by omega);have aA:=Hp.out.2.zRX hb;have gA:Hid (qV wr lo hi (.slice a' p.hn c') p.hn p.h):=aA;obtain⟨_,a2,nA,iA,_,kA⟩:=aA;simp only[Value.slice.injEq,true_and]at iA;obtain⟨rfl,rfl⟩:=iA;obtain⟨b,off,rfl,_,_,k1⟩:=kA (by omega);have pA:=k1 k eA;clear k1 kA;go_wp2_with fail;refine(zEx _ p.n lo hi p.s _ _ (Hp.out.1.zRX hb)).mono ?_;rintro e w1 ⟨⟨ps,pb,rfl,jA⟩,dA⟩;have lA:Hid (zBg p.n p.s (p.h k) ps pb):=jA;have HX:Hid (zc w1 w.heap.size (.slice a p.n c) (.slice (some ⟨b,off,none⟩) p.hn c')):=Hx.out.zRX dA;have HI:Hid (qV w1 lo hi (.slice (some ⟨b,off,none⟩) k k) k p.h):=(gA.out.zRX dA).take (by omega) (by omega);have fA:=zA hb dA;clear jA dA y0 y1 y2 y3 Hx;by_cases hz:ps=0/\pb=0
   ·obtain⟨rfl,rfl⟩:=hz;go_wp2;go_ret;exact⟨zG.no fun h=>(h k eA).1 lA.out,fA⟩
   ·have HZ:Hid (¬zBg p.n p.s (p.h k) 0 0):=fun h=>by
     obtain⟨e0,e1⟩:=lA.out.uniq h;exact hz ⟨e0,e1⟩
    have e0:(ps == 0)=false\/(ps == 0)=true/\(pb == 0)=false:=by
     by_cases h:ps=0
     ·right;refine⟨by simp[h],?_⟩;have:pb≠0:=fun h'=>hz ⟨h,h'⟩
      simp[this]
     ·left;simp[h]
    clear hz;obtain⟨⟨y0,y1⟩,⟨y2,y3⟩⟩:=HX.out;have rA:k<=c':=(by omega);by_cases hh:Has k p.h (p.h k)
    ·have HH:Hid (Has k p.h (p.h k)):=hh;clear hh;rcases e0 with e0 | ⟨e0,e1⟩
     all_goals
      go_wp2_with fail;refine(zCW _ k lo hi p.h _ _ HI.out).mono ?_;rintro e w2 ⟨⟨t,rfl,ht⟩,rfl⟩;obtain rfl:t=true:=ht.2 HH.out;clear ht;go_wp2;go_ret;exact⟨zG.no fun h=>(h k eA).2 HH.out,fA⟩
    ·have HH:Hid (¬Has k p.h (p.h k)):=hh;clear hh;rcases e0 with e0 | ⟨e0,e1⟩
     all_goals
      go_wp2_with fail;refine(zCW _ k lo hi p.h _ _ HI.out).mono ?_;rintro e w2 ⟨⟨t,rfl,ht⟩,rfl⟩;obtain rfl:t=false:=zQ ht HH.out;clear ht y0 y1 y2 y3;go_wp2;go_roundw
      case rel=>exact⟨k+1,by omega,by go_num,zo eA cA.out ⟨HZ.out,HH.out⟩,HX.out,fA⟩
      case measure=>simp[intOf];omega
  ·obtain rfl:k=p.hn:=(by omega);go_wp2;go_ret;exact⟨zG.yes cA.out,hb⟩
theorem zPX:∀(m n:Nat) (h:Nat->Nat),(∀i,i<m->h i<n)->(∀i j,i<j->j<m->h i≠h j)->m<=n
 | 0,_,_,_,_=>Nat.zero_le _
 | m+1,0,h,hlt,_=>absurd (hlt 0 (by omega)) (Nat.not_lt_zero _)
 | m+1,n+1,h,hlt,hne=>by
  have key:=zPX m n (fun i=>if h i<h m then h i else h i - 1) (fun i hi=>by
   have a:=hlt i (by omega);have b:=hne i m hi (by omega);have c:=hlt m (by omega);show(if h i<h m then h i else h i - 1)<n;split<;>omega) (fun i j aA hj=>by
   have a:=hne i j aA (by omega);have b:=hne i m (by omega) (by omega);have c:=hne j m (by omega) (by omega);show(if h i<h m then h i else h i - 1)≠(if h j<h m then h j else h j - 1);split<;>split<;>omega)
  omega
theorem zHv{s:zL}(h:qE s):s.zRi=0:=h.1
theorem zP2{n:Nat}{f:Nat->zL}{s:zL}(h:zA8 n f s)(hf:¬qE s):1<=s.zRi:=by
 rcases h with h | h | h
 ·exact absurd h hf
 ·exact h.1.1
 ·exact h.1.1.1
theorem zFN{p:zI}{s:zL}(h:qE s\/zAg p s)(hf:¬qE s):1<=s.zRi:=by
 rcases h with h | h
 ·exact absurd h hf
 ·exact h.1.1
theorem zHT{p:zI}{b ks kb:Int}(aA:∀i,i<p.n->¬qE (p.s i)->1<=(p.s i).zRi):zAX p.n p.s b ks kb ks kb↔zIW p b ks kb:=by
 constructor
 ·rintro⟨ps,pb,hp,h⟩;rcases h with⟨h,rfl,rfl⟩ | ⟨h,rfl,rfl⟩
  ·exact Or.inl ⟨rfl,rfl⟩
  ·rcases hp with⟨h1,h2,h3,_,h5⟩ | ⟨h1,rfl,rfl⟩
   ·right;have hb:=aA ks.toNat (by omega) h3;rw[<-h5]at hb;refine⟨⟨hb,h1,h2,h5.symm⟩,?_⟩;by_cases hx:b<kb
    ·exact absurd (Or.inr hx) h
    ·omega
   ·exact absurd (Or.inl ⟨rfl,rfl⟩) h
 ·rintro(⟨rfl,rfl⟩ | ⟨⟨h1,h2,h3,h4⟩,h5⟩)
  ·by_cases hx:0<p.n/\¬qE (p.s 0)
   ·refine⟨0,(p.s 0).zRi,Or.inl ⟨by omega,by omega,?_,rfl,rfl⟩,Or.inl ⟨Or.inl ⟨rfl,rfl⟩,rfl,rfl⟩⟩;exact hx.2
   ·refine⟨0,0,Or.inr ⟨fun h=>hx ⟨by omega,h.2.2⟩,rfl,rfl⟩,Or.inl ⟨Or.inl ⟨rfl,rfl⟩,rfl,rfl⟩⟩
  ·refine⟨ks,kb,Or.inl ⟨h2,h3,fun hf=>?_,rfl,h4.symm⟩,Or.inr ⟨fun h=>?_,rfl,rfl⟩⟩
   ·have:=zHv hf;omega
   ·rcases h with h | h
    ·have:=h.2;omega
    ·omega
theorem zCa(p:zI):zQq p↔zx p:=by
 constructor
 ·rintro⟨h1,h2,h3,h4⟩;have aA:∀i,i<p.n->¬qE (p.s i)->1<=(p.s i).zRi:=fun i hi=>zP2 (h3 i hi)
  refine⟨h1,fun i hi=>?_,fun i hi=>?_⟩
  ·rcases h3 i hi with h | h | h
   ·exact Or.inl h
   ·exact Or.inr ⟨h.1,Or.inl h.2⟩
   ·refine Or.inr ⟨h.1.1,Or.inr ⟨h.1.2.1,h.1.2.2,fun j hj=>?_⟩⟩;exact(zHT aA).1 (h.2 j (by have:=h.1.2.1;omega))
  ·obtain⟨ha,hb⟩:=h4 i hi;have hx:0<=p.h i/\p.h i<p.n/\¬qE (p.s (p.h i).toNat):=by
    by_cases hx:0<=p.h i/\p.h i<p.n/\¬qE (p.s (p.h i).toNat)
    ·exact hx
    ·exact absurd (Or.inr ⟨hx,rfl,rfl⟩) ha
   exact⟨hx.1,hx.2.1,hx.2.2,hb⟩
 ·rintro⟨h1,h3,h4⟩;have aA:∀i,i<p.n->¬qE (p.s i)->1<=(p.s i).zRi:=fun i hi=>zFN (h3 i hi)
  refine⟨h1,?_,fun i hi=>?_,fun i hi=>?_⟩
  ·refine zPX p.hn p.n (fun i=>(p.h i).toNat) (fun i hi=>?_) (fun i j bA hj=>?_)
   ·obtain⟨a,b,_,_⟩:=h4 i hi;show(p.h i).toNat<p.n;omega
   ·obtain⟨a,b,_,d⟩:=h4 j hj;obtain⟨a',b',_,_⟩:=h4 i (by omega);show(p.h i).toNat≠(p.h j).toNat;intro e;exact d ⟨i,bA,by omega⟩
  ·rcases h3 i hi with h | h
   ·exact Or.inl h
   ·rcases h.2 with g | g
    ·exact Or.inr (Or.inl ⟨h.1,g⟩)
    ·exact Or.inr (Or.inr ⟨⟨h.1,g.1,g.2.1⟩,fun j hj=>(zHT aA).2 (g.2.2 j (by omega))⟩)
  ·obtain⟨a,b,c,d⟩:=h4 i hi;refine⟨fun hx=>?_,d⟩;rcases hx with⟨_,_,_,e1,e2⟩ | ⟨hx,_⟩
   ·have:=aA (p.h i).toNat (by omega) c;omega
   ·exact hx ⟨a,b,c⟩
theorem zAA(v0 v1:Value)(lo hi:Nat)(p:zI)(w:World)(h1:zu w lo hi v0 v1 p) :
  Calls Tryz.prog 154 #[.agg #[v0,v1]] w fun e w'=>zG (zx p) e/\Below w.heap.size w w':=by
 have Hp:Hid (zu w lo hi v0 v1 p):=h1;obtain⟨⟨m1,a,c,rfl,mc,g1⟩,⟨m2,a',c',rfl,kA,g2⟩⟩:=h1;unfold maxLen at m1 m2;clear g1 g2;have gA:Hid (Below w.heap.size w (w.alloc (.cells #[.slice a p.n c,.slice a' p.hn c'] 33))):=zC _ _;by_cases hn:(200:Int)<p.n
 ·have H:Hid (¬zx p):=fun h=>by have:=h.1;omega
  go_enter Tryz.func154,Tryz.ntmps154;go_wp2;go_ret;exact⟨zG.no H.out,gA.out⟩
 by_cases lA:(p.n:Int)<p.hn
 ·have H:Hid (¬zx p):=fun h=>by have:=((zCa p).2 h).2.1;omega
  go_enter Tryz.func154,Tryz.ntmps154;go_wp2;go_ret;exact⟨zG.no H.out,gA.out⟩
 ·go_enter Tryz.func154,Tryz.ntmps154;go_wp2
  go_loopw [21] (fun i wr=>∃k:Nat,k<=p.n/\i = .int .i64 k/\(∀j,j<k->zA8 p.n p.s (p.s j))/\zc wr w.heap.size (.slice a p.n c) (.slice a' p.hn c')/\Below w.heap.size w wr) (fun i _=>p.n - (intOf i).toNat)
  case atStart=>exact⟨0,Nat.zero_le _,rfl,fun j hj=>absurd hj (Nat.not_lt_zero _),zc.zRZ _ _ _ _,gA.out⟩
  case round=>
   obtain⟨k,hk,rfl,bA,hx,hb⟩:=hrel;have cA:Hid (∀j,j<k->zA8 p.n p.s (p.s j)):=bA;have Hx:Hid (zc wr w.heap.size (.slice a p.n c) (.slice a' p.hn c')):=hx;clear bA hx;obtain⟨⟨y0,y1⟩,⟨y2,y3⟩⟩:=Hx.out;have mA:w.heap.size<wr.heap.size:=Hx.out.1.lt;by_cases iA:k<p.n
   ·have jA:(k:Int)<(p.n:Int):=(by omega);obtain⟨b,off,ka,kc,rfl,hs⟩:=(Hp.out.1.zRX hb).cells iA;have Hs:Hid (zAd wr b (off+k*3) lo hi ka kc (p.s k)):=hs;obtain⟨q0,q1,q2,_⟩:=hs;go_wp2_with fail;have eA:=zC wr (.cells #[.int .i64 (p.s k).zRi,.slice ka (p.s k).kn kc,.string (p.s k).data] 127);refine(zFI _ _ _ _ p.n lo hi lo hi p.s (p.s k) _ (Hp.out.1.zRX (zA hb eA)) (Hs.out.slot.zRX eA)).mono ?_;rintro e w1 ⟨⟨t,rfl,ht⟩,aA⟩;have fA:=zA eA aA;have HX:Hid (zc w1 w.heap.size (.slice (some ⟨b,off,none⟩) p.n c) (.slice a' p.hn c')):=Hx.out.zRX fA;have dA:=zA hb fA;have Ht:Hid (t=true↔zA8 p.n p.s (p.s k)):=ht;clear eA aA fA ht q0 q1 q2 y0 y1 y2 y3 Hx Hs;cases t
    ·go_wp2;go_ret;refine⟨zG.no fun h=>?_,dA⟩;have:=((zCa p).2 h).2.2.1 k iA;exact absurd (Ht.out.2 this) (by simp)
    ·go_wp2;go_roundw
     case rel=>exact⟨k+1,by omega,by go_num,zo iA cA.out (by simpa using Ht.out),HX.out,dA⟩
     case measure=>simp[intOf];omega
   ·obtain rfl:k=p.n:=(by omega);go_wp2_with fail;refine(zIz _ _ lo hi p _ (Hp.out.zRX hb)).mono ?_;rintro e w1 ⟨⟨t,rfl,ht⟩,aA⟩;have Ht:Hid (t=true↔∀i,i<p.hn->zGE p i):=ht;have dA:=zA hb aA;clear ht aA y0 y1 y2 y3;go_wp2;go_ret;refine⟨⟨t,rfl,Ht.out.trans ⟨fun h=>?_,fun h=>?_⟩⟩,dA⟩
    ·exact(zCa p).1 ⟨by omega,by omega,cA.out,h⟩
    ·exact((zCa p).2 h).2.2.2
theorem zBg.some(n:Nat)(f:Nat->zL)(x:Int):∃ps pb,zBg n f x ps pb:=by
 by_cases h:0<=x/\x<n/\¬qE (f x.toNat)
 ·exact⟨x,(f x.toNat).zRi,Or.inl ⟨h.1,h.2.1,h.2.2,rfl,rfl⟩⟩
 ·exact⟨0,0,Or.inr ⟨h,rfl,rfl⟩⟩
theorem zEp(v:Value)(n lo hi:Nat)(f:Nat->zL)(xs xb:Int)(w:World)(h1:qA w lo hi v n f) :
  Calls Tryz.prog 191 #[v,.agg #[.int .i64 xs,.int .i64 xb]] w fun e w'=>zG (¬zCM xs xb 0 0/\zBg n f xs xs xb) e/\Below w.heap.size w w':=by
 have Hi:Hid (qA w lo hi v n f):=h1;obtain⟨m1,a,c,rfl,mc,g1⟩:=h1;clear g1;have ha:=zC w (.cells #[.int .i64 xs,.int .i64 xb] 61);have Hx:Hid (zc (w.alloc (.cells #[.int .i64 xs,.int .i64 xb] 61)) w.heap.size (.int .i64 xs) (.int .i64 xb)):=zc.zRZ _ _ _ _;by_cases hz:xs=0/\xb=0
 ·obtain⟨rfl,rfl⟩:=hz;go_enter Tryz.func191,Tryz.ntmps191;go_wp2_with fail
  go_quiet (fail)
  go_wp2;go_ret;exact⟨zG.no fun h=>h.1 ⟨rfl,rfl⟩,zg ha _⟩
 ·have HZ:Hid (¬zCM xs xb 0 0):=hz;have e0:(xs == 0)=false\/(xs == 0)=true/\(xb == 0)=false:=by
   by_cases h:xs=0
   ·right;refine⟨by simp[h],?_⟩;have:xb≠0:=fun h'=>hz ⟨h,h'⟩
    simp[this]
   ·left;simp[h]
  clear hz;obtain⟨bA,dA,h0⟩:=zBg.some n f xs;have H0:Hid (zBg n f xs bA dA):=h0;clear h0;by_cases hq:xs=bA/\xb=dA
  ·obtain⟨rfl,rfl⟩:=hq;rcases e0 with e0 | ⟨e0,e1⟩
   all_goals
    go_enter Tryz.func191,Tryz.ntmps191;go_wp2_with fail;go_region_held3 (fun w'=>w'.cell? ⟨w.heap.size,0,none⟩=some (.int .i64 xs)/\w'.cell? ⟨w.heap.size,1,none⟩=some (.int .i64 xb)) (go_keep)
     (first | (go_at_call 216;refine(zEx _ n lo hi f _ _ ?_).mono ?_;(exact(Hi.out.zRX ha).zRX ((Below.refl _ _).drew));rintro e w1 ⟨⟨ps,pb,rfl,hp⟩,cA⟩;obtain⟨rfl,rfl⟩:=H0.out.uniq hp;clear hp;have aA:=zK cA;have z0:=(Hx.out.zRX aA).1.1;have z1:=(Hx.out.zRX aA).2.1))
    have eA:=zA ha aA;clear cA aA z0 z1;go_wp2;go_ret;exact⟨zG.yes ⟨HZ.out,H0.out⟩,eA⟩
  ·have HQ:Hid (¬(xs=bA/\xb=dA)):=hq;have e4:(xs == bA)=false\/(xs == bA)=true/\(xb == dA)=false:=by
    by_cases h:xs=bA
    ·right;refine⟨by simp[h],?_⟩;have:xb≠dA:=fun h'=>hq ⟨h,h'⟩
     simp[this]
    ·left;simp[h]
   clear hq;rcases e0 with e0 | ⟨e0,e1⟩
   all_goals
    rcases e4 with e4 | ⟨e4,e5⟩
    all_goals
     go_enter Tryz.func191,Tryz.ntmps191;go_wp2_with fail;go_region_held3 (fun w'=>w'.cell? ⟨w.heap.size,0,none⟩=some (.int .i64 xs)/\w'.cell? ⟨w.heap.size,1,none⟩=some (.int .i64 xb)) (go_keep)
      (first | (go_at_call 216;refine(zEx _ n lo hi f _ _ ?_).mono ?_;(exact(Hi.out.zRX ha).zRX ((Below.refl _ _).drew));rintro e w1 ⟨⟨ps,pb,rfl,hp⟩,cA⟩;obtain⟨rfl,rfl⟩:=H0.out.uniq hp;clear hp;have aA:=zK cA;have z0:=(Hx.out.zRX aA).1.1;have z1:=(Hx.out.zRX aA).2.1))
     have eA:=zA ha aA;clear cA aA z0 z1;go_wp2;go_ret;refine⟨zG.no fun h=>?_,eA⟩;obtain⟨q0,q1⟩:=h.2.uniq H0.out;exact HQ.out ⟨q0,q1⟩
theorem zEs{p:zI}{xs xb:Int}(hR:zx p):(¬zCM xs xb 0 0/\zBg p.n p.s xs xs xb)↔zr p xs xb:=by
 constructor
 ·rintro⟨h,h1 | ⟨_,h2,h3⟩⟩
  ·obtain⟨a,b,c,_,e⟩:=h1;have:=zFN (hR.2.1 xs.toNat (by omega)) c;exact⟨by omega,a,b,e.symm⟩
  ·exact absurd ⟨h2,h3⟩ h
 ·rintro⟨a,b,c,d⟩;refine⟨fun h=>by have:=h.2;omega,Or.inl ⟨b,c,fun hf=>?_,rfl,d.symm⟩⟩;have:=zHv hf;omega
def Nil(xs xb:Int):Prop:=xs=0/\xb=0
instance (xs xb:Int):Decidable (Nil xs xb):=inferInstanceAs (Decidable (xs=0/\xb=0))
def one(xs xb:Int):List (Int×Int):=if Nil xs xb then [] else [(xs,xb)]
def kidsUp(ks kb:Nat->Int):Nat->List (Int×Int)
 | 0=>[]
 | k+1=>kidsUp ks kb k ++ one (ks k) (kb k)
def zb(s:zL)(i:Nat):Int:=zj s (i*2)
def zt(s:zL)(i:Nat):Int:=zj s (i*2+1)
def zM4(s:zL):List (Int×Int):=kidsUp (zb s) (zt s) 8
def zE7(p:zI)(xs xb:Int):List (Int×Int):=if Nil xs xb then [] else(xs,xb) :: zM4 (p.s xs.toNat)
def zAy(p:zI)(s:zL):Nat->List (Int×Int)
 | 0=>[]
 | k+1=>zAy p s k ++ zE7 p (zb s k) (zt s k)
def zR(p:zI)(rs rb:Int):List (Int×Int):=if Nil rs rb then [] else(rs,rb) :: zAy p (p.s rs.toNat) 8
theorem zC6{s:zL}(h:s.kn=8){i:Nat}(hi:i<8):zb s i=s.ks i:=by
 unfold zb zj;rw[show i*2 / 2=i by omega,if_pos (by omega),if_pos (by omega)]
theorem zEt{s:zL}(h:s.kn=8){i:Nat}(hi:i<8):zt s i=s.kb i:=by
 unfold zt zj;rw[show(i*2+1) / 2=i by omega,if_pos (by omega),if_neg (by omega)]
theorem zNa{s:zL}(h:s.kn=0)(i:Nat):zb s i=0:=by
 unfold zb zj;rw[if_neg (by omega)]
theorem zNT{s:zL}(h:s.kn=0)(i:Nat):zt s i=0:=by
 unfold zt zj;rw[if_neg (by omega)]
theorem zKb{xs xb:Int}{x:Int×Int}:x∈one xs xb↔x=(xs,xb)/\¬Nil xs xb:=by
 unfold one;by_cases h:Nil xs xb
 ·rw[if_pos h];simp[h]
 ·rw[if_neg h];simp[h]
theorem zAT{ks kb:Nat->Int}{x:Int×Int}:∀{k:Nat},x∈kidsUp ks kb k↔∃i,i<k/\x=(ks i,kb i)/\¬Nil (ks i) (kb i)
 | 0=>by simp[kidsUp]
 | k+1=>by
  rw[kidsUp,List.mem_append,zAT,zKb];constructor
  ·rintro(⟨i,hi,h⟩ | h)
   ·exact⟨i,by omega,h⟩
   ·exact⟨k,by omega,h⟩
  ·rintro⟨i,hi,h⟩;by_cases e:i=k
   ·subst e;exact Or.inr h
   ·exact Or.inl ⟨i,by omega,h⟩
theorem zCx{p:zI}{xs xb:Int}{x:Int×Int}:x∈zE7 p xs xb↔¬Nil xs xb/\(x=(xs,xb)\/x∈zM4 (p.s xs.toNat)):=by
 unfold zE7;by_cases h:Nil xs xb
 ·rw[if_pos h];simp[h]
 ·rw[if_neg h];simp[h]
theorem zCX{p:zI}{s:zL}{x:Int×Int}:∀{k:Nat},x∈zAy p s k↔∃i,i<k/\x∈zE7 p (zb s i) (zt s i)
 | 0=>by simp[zAy]
 | k+1=>by
  rw[zAy,List.mem_append,zCX];constructor
  ·rintro(⟨i,hi,h⟩ | h)
   ·exact⟨i,by omega,h⟩
   ·exact⟨k,by omega,h⟩
  ·rintro⟨i,hi,h⟩;by_cases e:i=k
   ·subst e;exact Or.inr h
   ·exact Or.inl ⟨i,by omega,h⟩
theorem zBE(ks kb:Nat->Int):∀k,(kidsUp ks kb k).length<=k
 | 0=>Nat.le_refl _
 | k+1=>by
  have:=zBE ks kb k;unfold kidsUp one;split<;>simp<;>omega
theorem zL5(p:zI)(xs xb:Int):(zE7 p xs xb).length<=9:=by
 unfold zE7;have:=zBE (zb (p.s xs.toNat)) (zt (p.s xs.toNat)) 8;split
 ·simp
 ·show(zM4 _).length+1<=9;unfold zM4;omega
theorem zEo(p:zI)(s:zL):∀k,(zAy p s k).length<=9*k
 | 0=>Nat.le_refl _
 | k+1=>by
  have:=zEo p s k;have:=zL5 p (zb s k) (zt s k);unfold zAy;rw[List.length_append];omega
theorem qN(p:zI)(rs rb:Int):(zR p rs rb).length<=73:=by
 unfold zR;have:=zEo p (p.s rs.toNat) 8;split
 ·simp
 ·show(zAy _ _ _).length+1<=73;omega
def zAi(p:zI)(xs xb:Int):Prop:=zr p xs xb/\0<(p.s xs.toNat).kn/\¬Has p.hn p.h xs
def zBo(p:zI)(xs xb:Int):Prop:=zr p xs xb/\(p.s xs.toNat).kn=0/\¬Has p.hn p.h xs
def zP0(p:zI)(s:zL):Prop:=(∀i,i<8->Nil (zb s i) (zt s i)\/zBo p (zb s i) (zt s i))/\∃i,i<8/\¬Nil (zb s i) (zt s i)
def zQm(p:zI)(s:zL)(i:Nat):Prop:=Nil (zb s i) (zt s i)\/(zAi p (zb s i) (zt s i)/\zP0 p (p.s (zb s i).toNat))
def yG(l:List (Int×Int)):List Int:=l.map Prod.fst
def zQn(p:zI)(s:zL):Prop:=(∀i,i<8->zQm p s i)/\∃i,i<8/\¬Nil (zb s i) (zt s i)
def qG(p:zI)(rs rb:Int):Prop:=Nil rs rb\/(zAi p rs rb/\zQn p (p.s rs.toNat)/\(yG (zR p rs rb)).Nodup)
def qp(p:zI)(rs rb:Int):Prop:=zx p/\qG p rs rb
def zKl(p:zI)(s:zL):Prop:=(∃i,i<8/\¬Nil (zb s i) (zt s i))/\∀i,i<8->Nil (zb s i) (zt s i)\/zHP (p.s (zb s i).toNat)
def zKf(p:zI)(s:zL):Prop:=(∃i,i<8/\¬Nil (zb s i) (zt s i))/\∀i,i<8->Nil (zb s i) (zt s i)\/zKl p (p.s (zb s i).toNat)
def zPy(p:zI)(l:List (Int×Int)):Prop:=l.Nodup/\∀x,x∈l->¬Has p.hn p.h x.1
def zKk(p:zI)(rs rb:Int):Prop:=Nil rs rb\/(zr p rs rb/\zKf p (p.s rs.toNat)/\zPy p (zR p rs rb))
theorem qS{p:zI}{xs xb:Int}(hR:zx p)(h:zr p xs xb):zAg p (p.s xs.toNat):=by
 obtain⟨h1,h2,h3,h4⟩:=h;rcases hR.2.1 xs.toNat (by omega)with hf | hf
 ·have:=hf.1;omega
 ·exact hf
theorem zEy{p:zI}{s:zL}(h:zAg p s):s.kn=0\/s.kn=8:=by
 rcases h.2 with h | h
 ·exact Or.inl h.1
 ·exact Or.inr h.1
theorem zDR{p:zI}{xs xb:Int}(hR:zx p)(h:zr p xs xb):(p.s xs.toNat).kn=0\/(p.s xs.toNat).kn=8:=zEy (qS hR h)
theorem zAl{p:zI}{s:zL}(h:zAg p s){i:Nat}(hi:i<8)(hn:¬Nil (zb s i) (zt s i)):zr p (zb s i) (zt s i)/\zt s i<=s.zRi:=by
 rcases h.2 with h2 | h2
 ·exact absurd ⟨zNa h2.1 i,zNT h2.1 i⟩ hn
 ·rw[zC6 h2.1 hi,zEt h2.1 hi]at hn ⊢;rcases h2.2.2 i (by omega)with h3 | h3
  ·exact absurd h3 hn
  ·exact h3
theorem zPt{p:zI}{xs xb:Int}(hR:zx p)(h:zr p xs xb):zHP (p.s xs.toNat)↔(p.s xs.toNat).kn=0:=by
 have hf:=qS hR h;constructor
 ·exact fun h=>h.2.1
 ·intro h0;rcases hf.2 with h2 | h2
  ·exact⟨hf.1,h2⟩
  ·omega
theorem zLa{s:zL}(h:s.kn=0\/s.kn=8)(he:∃i,i<8/\¬Nil (zb s i) (zt s i)):s.kn=8:=by
 rcases h with h | h
 ·obtain⟨i,_,hi⟩:=he;exact absurd ⟨zNa h i,zNT h i⟩ hi
 ·exact h
theorem zDE{p:zI}{rs rb:Int}(hR:zx p)(h:zr p rs rb):∀x,x∈zR p rs rb->zr p x.1 x.2/\x.2<=rb:=by
 intro x hx;unfold zR at hx;split at hx
 ·simp at hx
 ·rw[List.mem_cons,zCX]at hx;rcases hx with rfl | ⟨i,hi,hx⟩
  ·exact⟨h,by simp⟩
  ·have hf:=qS hR h;have bA:(p.s rs.toNat).zRi=rb:=h.2.2.2;obtain⟨hn,hx⟩:=zCx.1 hx;have hk:=zAl hf hi hn;rcases hx with rfl | hx
   ·exact⟨hk.1,by rw[<-bA];exact hk.2⟩
   ·obtain⟨j,hj,rfl,cA⟩:=zAT.1 hx;have dA:=qS hR hk.1;have aA:=zAl dA hj cA;have e:(p.s (zb (p.s rs.toNat) i).toNat).zRi=zt (p.s rs.toNat) i:=hk.1.2.2.2;have:=hk.2;have:=aA.2;exact⟨aA.1,by show zt _ j<=rb;omega⟩
theorem zGe{p:zI}{l:List (Int×Int)}(h:∀x,x∈l->zr p x.1 x.2):(yG l).Nodup↔l.Nodup:=by
 unfold yG List.Nodup;rw[List.pairwise_map];constructor
 ·exact fun hp=>hp.imp (fun aA e=>aA (by rw[e]))
 ·intro hp;refine List.Pairwise.imp_of_mem ?_ hp;intro a b ha hb aA e;apply aA;have h1:=(h a ha).2.2.2;have h2:=(h b hb).2.2.2;rw[e]at h1;obtain⟨a1,a2⟩:=a;obtain⟨b1,b2⟩:=b;simp only[Prod.mk.injEq];exact⟨e,by simp only at h1 h2 e;rw[<-h1,<-h2]⟩
theorem zGL{p:zI}{rs rb:Int}(hR:zx p):zKk p rs rb↔qG p rs rb:=by
 by_cases hz:Nil rs rb
 ·exact⟨fun _=>Or.inl hz,fun _=>Or.inl hz⟩
 have bA:(rs,rb)∈zR p rs rb:=by unfold zR;rw[if_neg hz];simp
 have dA:∀i,i<8->¬Nil (zb (p.s rs.toNat) i) (zt (p.s rs.toNat) i)->(zb (p.s rs.toNat) i,zt (p.s rs.toNat) i)∈zR p rs rb:=fun i hi hn=>by
  unfold zR;rw[if_neg hz,List.mem_cons,zCX];exact Or.inr ⟨i,hi,zCx.2 ⟨hn,Or.inl rfl⟩⟩
 have cA:∀i,i<8->¬Nil (zb (p.s rs.toNat) i) (zt (p.s rs.toNat) i)->∀x,x∈zM4 (p.s (zb (p.s rs.toNat) i).toNat)->x∈zR p rs rb:=fun i hi hn x hx=>by
  unfold zR;rw[if_neg hz,List.mem_cons,zCX];exact Or.inr ⟨i,hi,zCx.2 ⟨hn,Or.inr hx⟩⟩
 constructor
 ·rintro(h | ⟨hP,⟨he,hS⟩,hA⟩)
  ·exact Or.inl h
  ·right;have hf:=qS hR hP;have kA:=zLa (zEy hf) he;refine⟨⟨hP,by omega,hA.2 _ bA⟩,⟨fun i hi=>?_,he⟩,(zGe (fun x hx=>(zDE hR hP x hx).1)).2 hA.1⟩;by_cases hn:Nil (zb (p.s rs.toNat) i) (zt (p.s rs.toNat) i)
   ·exact Or.inl hn
   ·right;have hk:=zAl hf hi hn;have fA:=qS hR hk.1;obtain⟨eA,gA⟩:zKl p (p.s (zb (p.s rs.toNat) i).toNat):=by
     rcases hS i hi with h | h
     ·exact absurd h hn
     ·exact h
    have iA:=zLa (zEy fA) eA;refine⟨⟨hk.1,by omega,hA.2 _ (dA i hi hn)⟩,fun j hj=>?_,eA⟩;by_cases aA:Nil (zb (p.s (zb (p.s rs.toNat) i).toNat) j) (zt (p.s (zb (p.s rs.toNat) i).toNat) j)
    ·exact Or.inl aA
    ·right;have jA:=zAl fA hj aA;refine⟨jA.1,?_,hA.2 _ (cA i hi hn _ (zAT.2 ⟨j,hj,rfl,aA⟩))⟩;rcases gA j hj with h | h
     ·exact absurd h aA
     ·exact h.2.1
 ·rintro(h | ⟨hN,⟨hM,he⟩,hD⟩)
  ·exact Or.inl h
  ·right;have hP:=hN.1;have hf:=qS hR hP;have held:∀x,x∈zR p rs rb->¬Has p.hn p.h x.1:=fun x hx=>by
    unfold zR at hx;rw[if_neg hz,List.mem_cons,zCX]at hx;rcases hx with rfl | ⟨i,hi,hx⟩
    ·exact hN.2.2
    ·obtain⟨hn,hx⟩:=zCx.1 hx;rcases hM i hi with h | ⟨h1,h2⟩
     ·exact absurd h hn
     ·rcases hx with rfl | hx
      ·exact h1.2.2
      ·obtain⟨j,hj,rfl,aA⟩:=zAT.1 hx;rcases h2.1 j hj with h | h
       ·exact absurd h aA
       ·exact h.2.2
   refine⟨hP,⟨he,fun i hi=>?_⟩,(zGe (fun x hx=>(zDE hR hP x hx).1)).1 hD,held⟩;rcases hM i hi with h | ⟨h1,h2,h3⟩
   ·exact Or.inl h
   ·refine Or.inr ⟨h3,fun j hj=>?_⟩;rcases h2 j hj with h | h
    ·exact Or.inl h
    ·exact Or.inr ((zPt hR h.1).2 h.2.1)
theorem zDG(v0 v1:Value)(lo hi:Nat)(p:zI)(xs xb:Int)(w:World)(h1:zu w lo hi v0 v1 p) :
  Calls Tryz.prog 184 #[.agg #[v0,v1],.agg #[.int .i64 xs,.int .i64 xb]] w fun e w'=>zG (zr p xs xb) e/\Below w.heap.size w w':=by
 obtain⟨⟨m1,a,c,rfl,mc,g1⟩,⟨_,a',c',rfl,_⟩⟩:=h1;unfold maxLen at m1;have G1:Hid (0<p.n->∃b off,a=some ⟨b,off,none⟩/\lo<=b/\b<hi/\∀i,i<p.n->∃v0 v1 v2,w.cell? ⟨b,off+i*3,none⟩=some v0/\w.cell? ⟨b,off+i*3+1,none⟩=some v1/\w.cell? ⟨b,off+i*3+2,none⟩=some v2/\qH w lo hi v0 v1 v2 (p.s i)):=g1;clear g1;have bA:=((Below.refl w.heap.size w).alloc (Nat.le_refl _) (.cells #[.slice a p.n c,.slice a' p.hn c'] 33)).alloc (by simp) (.cells #[.int .i64 xs,.int .i64 xb] 61);have aA:Hid (Below w.heap.size w ((w.alloc (.cells #[.slice a p.n c,.slice a' p.hn c'] 33)).alloc (.cells #[.int .i64 xs,.int .i64 xb] 61))):=bA;clear bA;by_cases h1:1<=xb
 ·by_cases h2:0<=xs
  ·by_cases h3:xs<p.n
   ·obtain⟨x,rfl⟩:=Int.eq_ofNat_of_zero_le h2;have cA:x<p.n:=(by omega);obtain⟨b,off,rfl,_,_,k1⟩:=G1.out (by omega);obtain⟨x0,x1,x2,c0,c1,c2,hs⟩:=k1 x cA;obtain⟨rfl,_⟩:=hs;have dA:=zD c0;clear k1 G1 c1 c2;by_cases h4:(p.s x).zRi=xb
    ·have H:Hid (zr p x xb):=⟨h1,h2,h3,by rw[Int.toNat_natCast];exact h4⟩;have e4:((p.s x).zRi == xb)=true:=(by simp[h4]);clear h4;go_enter Tryz.func184,Tryz.ntmps184;go_wp2_with fail
     go_quiet (fail)
     go_wp2;go_ret;exact⟨zG.yes H.out,zg aA.out _⟩
    ·have H:Hid (¬zr p x xb):=fun h=>h4 (by have:=h.2.2.2;rw[Int.toNat_natCast]at this;exact this)
     have e4:((p.s x).zRi == xb)=false:=(by simp[h4]);clear h4;go_enter Tryz.func184,Tryz.ntmps184;go_wp2_with fail
     go_quiet (fail)
     go_wp2;go_ret;exact⟨zG.no H.out,zg aA.out _⟩
   ·have H:Hid (¬zr p xs xb):=fun h=>h3 h.2.2.1
    have e3:decide (xs<(p.n:Int))=false:=(by simpa using h3);go_enter Tryz.func184,Tryz.ntmps184;go_wp2_with fail
    go_quiet (fail)
    go_wp2;go_ret;exact⟨zG.no H.out,zg aA.out _⟩
  ·have H:Hid (¬zr p xs xb):=fun h=>h2 h.2.1
   have e3:decide (0<=xs)=false:=(by simpa using h2);go_enter Tryz.func184,Tryz.ntmps184;go_wp2_with fail
   go_quiet (fail)
   go_wp2;go_ret;exact⟨zG.no H.out,zg aA.out _⟩
 ·have H:Hid (¬zr p xs xb):=fun h=>h1 h.1
  have e3:decide (1<=xb)=false:=(by simpa using h1);go_enter Tryz.func184,Tryz.ntmps184;go_wp2_with fail
  go_quiet (fail)
  go_wp2;go_ret;exact⟨zG.no H.out,zg aA.out _⟩
theorem zc.two(w:World)(v0 v1:Value)(t:TypeId)(o:Obj):zc ((w.alloc (.cells #[v0,v1] t)).alloc o) w.heap.size v0 v1:=(zc.zRZ w v0 v1 t).zRX (zC _ _)
theorem yR.second(w:World)(v0 v1 v2:Value)(t:TypeId)(o:Obj):yR ((w.alloc o).alloc (.cells #[v0,v1,v2] t)) (w.heap.size+1) v0 v1 v2:=by
 have:=yR.zRZ (w.alloc o) v0 v1 v2 t;rw[World.size_alloc]at this;exact this
theorem zG8(v0 v1 s0 s1 s2:Value)(lo hi lo' hi':Nat)(p:zI)(s:zL)(w:World)(h1:zu w lo hi v0 v1 p)(h2:qH w lo' hi' s0 s1 s2 s) :
  Calls Tryz.prog 136 #[.agg #[v0,v1],.agg #[s0,s1,s2]] w fun e w'=>zG (zAg p s) e/\Below w.heap.size w w':=by
 have Hp:Hid (zu w lo hi v0 v1 p):=h1;obtain⟨⟨m1,a,c,rfl,_⟩,⟨_,a',c',rfl,_⟩⟩:=h1;obtain⟨rfl,hk,rfl,m3⟩:=h2;obtain⟨m2,ka,kc,rfl,kB,g1⟩:=hk;have G1:Hid (0<s.kn->∃b off,ka=some ⟨b,off,none⟩/\lo'<=b/\b<hi'/\∀i,i<s.kn->w.cell? ⟨b,off+i*2,none⟩=some (.int .i64 (s.ks i))/\w.cell? ⟨b,off+i*2+1,none⟩=some (.int .i64 (s.kb i))):=g1;clear g1;unfold maxLen at m1 m2 m3;have vA:=((Below.refl w.heap.size w).alloc (Nat.le_refl _) (.cells #[.slice a p.n c,.slice a' p.hn c'] 33)).alloc (by simp) (.cells #[.int .i64 s.zRi,.slice ka s.kn kc,.string s.data] 127);have fA:Hid (Below w.heap.size w ((w.alloc (.cells #[.slice a p.n c,.slice a' p.hn c'] 33)).alloc (.cells #[.int .i64 s.zRi,.slice ka s.kn kc,.string s.data] 127))):=vA;clear vA;by_cases hB:qi s.zRi
 ·by_cases cA:s.kn=0
  ·have e2:((s.kn:Int) == 0)=true:=(by simp[cA]);by_cases hd:s.data.size=16
   ·have H:Hid (zAg p s):=⟨hB,Or.inl ⟨cA,hd⟩⟩;have HB:Hid (qi s.zRi):=hB;have e3:((s.data.size:Int) == 16)=true:=(by simp[hd]);clear cA hd hB;go_enter Tryz.func136,Tryz.ntmps136;go_wp2_with (go_at_call 145;refine(yX _ _).mono ?_;rintro e w' ⟨⟨t,rfl,ht⟩,rfl⟩;obtain rfl:t=true:=ht.2 HB.out;clear ht);go_ret;exact⟨zG.yes H.out,fA.out⟩
   ·have H:Hid (¬zAg p s):=fun h=>by
     rcases h.2 with h | h
     ·exact hd h.2
     ·omega
    have HB:Hid (qi s.zRi):=hB;have e3:((s.data.size:Int) == 16)=false:=(by simp;omega);clear cA hd hB;go_enter Tryz.func136,Tryz.ntmps136;go_wp2_with (go_at_call 145;refine(yX _ _).mono ?_;rintro e w' ⟨⟨t,rfl,ht⟩,rfl⟩;obtain rfl:t=true:=ht.2 HB.out;clear ht);go_ret;exact⟨zG.no H.out,fA.out⟩
  ·have e2:((s.kn:Int) == 0)=false:=(by simp;omega);by_cases gA:s.kn=8
   ·by_cases hd:s.data.toList.isEmpty=true
    ·have HB:Hid (qi s.zRi):=hB;have e3:((s.kn:Int) != 8)=false:=(by simp;omega);have H8:Hid (s.kn=8):=gA;have dB:(s.kn:Int)<=8:=(by omega);clear gA hB cA;have HD:Hid (s.data.toList.isEmpty=true):=hd;go_enter Tryz.func136,Tryz.ntmps136;go_wp2_with (go_at_call 145;refine(yX _ _).mono ?_;rintro e w' ⟨⟨t,rfl,ht⟩,rfl⟩;obtain rfl:t=true:=ht.2 HB.out;clear ht)
     go_loopw [5] (fun i wr=>∃k:Nat,k<=s.kn/\i = .int .i64 k/\(∀j,j<k->zIW p s.zRi (s.ks j) (s.kb j))/\zc wr w.heap.size (.slice a p.n c) (.slice a' p.hn c')/\yR wr (w.heap.size+1) (.int .i64 s.zRi) (.slice ka s.kn kc) (.string s.data)/\Below w.heap.size w wr) (fun i _=>s.kn - (intOf i).toNat)
     case atStart=>exact⟨0,Nat.zero_le _,rfl,fun j hj=>absurd hj (Nat.not_lt_zero _),zc.two _ _ _ _ _,yR.second _ _ _ _ _ _,fA.out⟩
     case round=>
      obtain⟨k,hk,rfl,kA,cB,bB,hb⟩:=hrel;have dA:Hid (∀j,j<k->zIW p s.zRi (s.ks j) (s.kb j)):=kA;have lA:Hid (zc wr w.heap.size (.slice a p.n c) (.slice a' p.hn c')):=cB;have oA:Hid (yR wr (w.heap.size+1) (.int .i64 s.zRi) (.slice ka s.kn kc) (.string s.data)):=bB;clear kA cB bB;have mB:w.heap.size<wr.heap.size:=lA.out.1.lt;have lB:w.heap.size+1<wr.heap.size:=oA.out.1.lt;obtain⟨⟨y0,y1⟩,⟨y2,y3⟩⟩:=lA.out;obtain⟨⟨z0,z1⟩,⟨z2,z3⟩,⟨z4,z5⟩⟩:=oA.out;by_cases bA:k<s.kn
      ·have iB:(k:Int)<(s.kn:Int):=(by omega);obtain⟨b,off,rfl,_,_,k1⟩:=G1.out (by omega);have eB:=(hb.cell (zD (k1 k bA).1)).trans (k1 k bA).1;have fB:=(hb.cell (zD (k1 k bA).2)).trans (k1 k bA).2;clear k1 G1;go_wp2_with fail;have pA:=zC wr (.cells #[.int .i64 (s.ks k),.int .i64 (s.kb k)] 61);refine(yx _ _ _).mono ?_;rintro e w1 ⟨⟨t,rfl,ht⟩,jA⟩;have nA:Hid (zc w1 w.heap.size (.slice a p.n c) (.slice a' p.hn c')):=(lA.out.zRX pA).zRX jA;have tA:Hid (yR w1 (w.heap.size+1) (.int .i64 s.zRi) (.slice (some ⟨b,off,none⟩) s.kn kc) (.string s.data)):=(oA.out.zRX pA).zRX jA;have sA:Hid (zc w1 wr.heap.size (.int .i64 (s.ks k)) (.int .i64 (s.kb k))):=(zc.zRZ wr _ _ _).zRX jA;have mA:Below w.heap.size w w1:=zA (zA hb pA) jA;clear pA jA y0 y1 y2 y3 z0 z1 z2 z3 z4 z5 eB fB lA oA;by_cases aA:zCM (s.ks k) (s.kb k) 0 0
       ·obtain rfl:t=true:=ht.2 aA;have HK:Hid (zIW p s.zRi (s.ks k) (s.kb k)):=Or.inl aA;clear ht aA;go_wp2;go_roundw
        case rel=>exact⟨k+1,by omega,by go_num,zo bA dA.out HK.out,nA.out,tA.out,mA⟩
        case measure=>simp[intOf];omega
       ·obtain rfl:t=false:=Bool.eq_false_iff.2 (fun h=>aA (ht.1 h));have HN:Hid (¬zCM (s.ks k) (s.kb k) 0 0):=aA;clear ht aA;obtain⟨⟨y0,y1⟩,⟨y2,y3⟩⟩:=nA.out;obtain⟨⟨q0,q1⟩,⟨q2,q3⟩⟩:=sA.out;go_wp2_with fail;refine(zDG _ _ lo hi p _ _ _ (Hp.out.zRX mA)).mono ?_;rintro e w2 ⟨⟨t,rfl,ht⟩,iA⟩;have gB:Hid (zc w2 w.heap.size (.slice a p.n c) (.slice a' p.hn c')):=nA.out.zRX iA;have aB:Hid (yR w2 (w.heap.size+1) (.int .i64 s.zRi) (.slice (some ⟨b,off,none⟩) s.kn kc) (.string s.data)):=tA.out.zRX iA;have jB:Hid (zc w2 wr.heap.size (.int .i64 (s.ks k)) (.int .i64 (s.kb k))):=sA.out.zRX iA;have rA:Below w.heap.size w w2:=zA mA iA;clear iA mA y0 y1 y2 y3 q0 q1 q2 q3 nA tA sA;by_cases eA:zr p (s.ks k) (s.kb k)
        ·obtain rfl:t=true:=ht.2 eA;have HP:Hid (zr p (s.ks k) (s.kb k)):=eA;clear ht eA;obtain⟨⟨q0,q1⟩,⟨q2,q3⟩⟩:=jB.out;obtain⟨⟨z0,z1⟩,⟨z2,z3⟩,⟨z4,z5⟩⟩:=aB.out;by_cases nB:s.zRi<s.kb k
         ·go_wp2;go_ret;refine⟨zG.no fun h=>?_,rA⟩;rcases h.2 with h | h
          ·omega
          ·rcases h.2.2 k bA with h | h
           ·exact HN.out h
           ·have:=h.2;omega
         ·have HK:Hid (zIW p s.zRi (s.ks k) (s.kb k)):=Or.inr ⟨HP.out,by omega⟩;go_wp2;go_roundw
          case rel=>exact⟨k+1,by omega,by go_num,zo bA dA.out HK.out,gB.out,aB.out,rA⟩
          case measure=>simp[intOf];omega
        ·obtain rfl:t=false:=Bool.eq_false_iff.2 (fun h=>eA (ht.1 h));have HP:Hid (¬zr p (s.ks k) (s.kb k)):=eA;clear ht eA;go_wp2;go_ret;refine⟨zG.no fun h=>?_,rA⟩;rcases h.2 with h | h
         ·omega
         ·rcases h.2.2 k bA with h | h
          ·exact HN.out h
          ·exact HP.out h.1
      ·go_wp2;go_ret;exact⟨zG.yes ⟨HB.out,Or.inr ⟨H8.out,HD.out,fun i hi=>dA.out i (by omega)⟩⟩,hb⟩
    ·have H:Hid (¬zAg p s):=fun h=>by
      rcases h.2 with h | h
      ·omega
      ·exact hd h.2.1
     have HB:Hid (qi s.zRi):=hB;have e3:((s.kn:Int) != 8)=false:=(by simp;omega);have e4:s.data.toList.isEmpty=false:=(by simpa using hd);clear gA hB cA hd;go_enter Tryz.func136,Tryz.ntmps136;go_wp2_with (go_at_call 145;refine(yX _ _).mono ?_;rintro e w' ⟨⟨t,rfl,ht⟩,rfl⟩;obtain rfl:t=true:=ht.2 HB.out;clear ht);go_ret;exact⟨zG.no H.out,fA.out⟩
   ·have H:Hid (¬zAg p s):=fun h=>by
     rcases h.2 with h | h
     ·omega
     ·exact gA h.1
    have HB:Hid (qi s.zRi):=hB;have e3:((s.kn:Int) != 8)=true:=(by simp;omega);clear gA hB cA;go_enter Tryz.func136,Tryz.ntmps136;go_wp2_with (go_at_call 145;refine(yX _ _).mono ?_;rintro e w' ⟨⟨t,rfl,ht⟩,rfl⟩;obtain rfl:t=true:=ht.2 HB.out;clear ht);go_ret;exact⟨zG.no H.out,fA.out⟩
 ·have HB:Hid (¬qi s.zRi):=hB;clear hB;go_enter Tryz.func136,Tryz.ntmps136;go_wp2_with (go_at_call 145;refine(yX _ _).mono ?_;rintro e w' ⟨⟨t,rfl,ht⟩,rfl⟩;obtain rfl:t=false:=Bool.eq_false_iff.2 (fun h=>HB.out (ht.1 h));clear ht);go_ret;exact⟨zG.no fun h=>HB.out h.1,fA.out⟩
theorem zDD(v0 v1:Value)(lo hi:Nat)(p:zI)(w:World)(h1:zu w lo hi v0 v1 p) :
  Calls Tryz.prog 68 #[.agg #[v0,v1]] w fun e w'=>zG (zx p) e/\Below w.heap.size w w':=by
 have Hp:Hid (zu w lo hi v0 v1 p):=h1;obtain⟨⟨m1,a,c,rfl,mc,g1⟩,⟨m2,a',c',rfl,sB,g2⟩⟩:=h1;unfold maxLen at m1 m2;clear g1 g2;have kB:Hid (Below w.heap.size w (w.alloc (.cells #[.slice a p.n c,.slice a' p.hn c'] 33))):=zC _ _;by_cases hn:(200:Int)<p.n
 ·have H:Hid (¬zx p):=fun h=>by have:=h.1;omega
  go_enter Tryz.func68,Tryz.ntmps68;go_wp2;go_ret;exact⟨zG.no H.out,kB.out⟩
 ·go_enter Tryz.func68,Tryz.ntmps68;go_wp2
  go_loopw [3] (fun i wr=>∃k:Nat,k<=p.n/\i = .int .i64 k/\(∀j,j<k->qE (p.s j)\/zAg p (p.s j))/\zc wr w.heap.size (.slice a p.n c) (.slice a' p.hn c')/\Below w.heap.size w wr) (fun i _=>p.n - (intOf i).toNat)
  case atStart=>exact⟨0,Nat.zero_le _,rfl,fun j hj=>absurd hj (Nat.not_lt_zero _),zc.zRZ _ _ _ _,kB.out⟩
  case round=>
   obtain⟨k,hk,rfl,eA,hx,hb⟩:=hrel;have dA:Hid (∀j,j<k->qE (p.s j)\/zAg p (p.s j)):=eA;have Hx:Hid (zc wr w.heap.size (.slice a p.n c) (.slice a' p.hn c')):=hx;clear eA hx;obtain⟨⟨y0,y1⟩,⟨y2,y3⟩⟩:=Hx.out;by_cases fA:k<p.n
   ·have eB:(k:Int)<(p.n:Int):=(by omega);obtain⟨b,off,ka,kc,rfl,hs⟩:=(Hp.out.1.zRX hb).cells fA;have Hs:Hid (zAd wr b (off+k*3) lo hi ka kc (p.s k)):=hs;obtain⟨q0,q1,q2,_⟩:=hs;by_cases hf:qE (p.s k)
    ·have HF:Hid (qE (p.s k)):=hf;clear hf;go_wp2_with fail
     first
      | (go_region_with (first | (go_at_call 74;refine(yd _ _ _ lo hi (p.s k) _ ?_).mono ?_;(exact Hs.out.slot.zRX ((Below.refl _ _).drew));rintro e w1 ⟨⟨t,rfl,hx⟩,cA⟩;obtain rfl:t=true:=hx.2 HF.out;clear hx;have bA:=zK cA;have cB:=(Hx.out.zRX bA).1.1;have rA:=(Hx.out.zRX bA).2.1;have bB:=(Hs.out.zRX bA).c0;have tA:=(Hs.out.zRX bA).c1;have vA:=(Hs.out.zRX bA).c2)))
      | fail
     all_goals
      have gA:=zA hb bA;have HX:Hid (zc w1 w.heap.size (.slice (some ⟨b,off,none⟩) p.n c) (.slice a' p.hn c')):=Hx.out.zRX bA;clear cA bA cB rA bB tA vA q0 q1 q2 y0 y1 y2 y3 Hs Hx;go_wp2;go_roundw
      case rel=>exact⟨k+1,by omega,by go_num,zo fA dA.out (Or.inl HF.out),HX.out,gA⟩
      case measure=>simp[intOf];omega
    ·have HF:Hid (¬qE (p.s k)):=hf;clear hf;by_cases dB:zAg p (p.s k)
     ·have HT:Hid (zAg p (p.s k)):=dB;clear dB;go_wp2_with fail;go_region_held3 (fun w'=>w'.cell? ⟨w.heap.size,0,none⟩=some (.slice (some ⟨b,off,none⟩) p.n c)/\w'.cell? ⟨w.heap.size,1,none⟩=some (.slice a' p.hn c')/\w'.cell? ⟨b,off+k*3,none⟩=some (.int .i64 (p.s k).zRi)/\w'.cell? ⟨b,off+k*3+1,none⟩=some (.slice ka (p.s k).kn kc)/\w'.cell? ⟨b,off+k*3+2,none⟩=some (.string (p.s k).data)) (go_keep)
       (first
        | (go_at_call 74;refine(yd _ _ _ lo hi (p.s k) _ ?_).mono ?_;(exact Hs.out.slot.zRX ((Below.refl _ _).drew));rintro e w1 ⟨⟨t,rfl,hx⟩,cA⟩;obtain rfl:t=false:=zQ hx HF.out;clear hx;have bA:=zK cA;have cB:=(Hx.out.zRX bA).1.1;have rA:=(Hx.out.zRX bA).2.1;have bB:=(Hs.out.zRX bA).c0;have tA:=(Hs.out.zRX bA).c1;have vA:=(Hs.out.zRX bA).c2)
        | (go_at_call 136;refine(zG8 _ _ _ _ _ lo hi lo hi p (p.s k) _ ?_ ?_).mono ?_;(exact Hp.out.zRX (zA hb bA));(exact Hs.out.slot.zRX bA);rintro e w2 ⟨⟨t2,rfl,iA⟩,pA⟩;obtain rfl:t2=true:=iA.2 HT.out;clear iA;have aA:=zA bA pA;have kA:=(Hx.out.zRX aA).1.1;have nA:=(Hx.out.zRX aA).2.1;have mA:=(Hs.out.zRX aA).c0;have jA:=(Hs.out.zRX aA).c1;have lA:=(Hs.out.zRX aA).c2))
      have gA:=zA hb aA;have HX:Hid (zc w2 w.heap.size (.slice (some ⟨b,off,none⟩) p.n c) (.slice a' p.hn c')):=Hx.out.zRX aA;clear cA bA cB rA bB tA vA q0 q1 q2 y0 y1 y2 y3 Hs Hx kA nA mA jA lA pA aA;go_wp2;go_roundw
      case rel=>exact⟨k+1,by omega,by go_num,zo fA dA.out (Or.inr HT.out),HX.out,gA⟩
      case measure=>simp[intOf];omega
     ·have HT:Hid (¬zAg p (p.s k)):=dB;clear dB;go_wp2_with fail;go_region_held3 (fun w'=>w'.cell? ⟨w.heap.size,0,none⟩=some (.slice (some ⟨b,off,none⟩) p.n c)/\w'.cell? ⟨w.heap.size,1,none⟩=some (.slice a' p.hn c')/\w'.cell? ⟨b,off+k*3,none⟩=some (.int .i64 (p.s k).zRi)/\w'.cell? ⟨b,off+k*3+1,none⟩=some (.slice ka (p.s k).kn kc)/\w'.cell? ⟨b,off+k*3+2,none⟩=some (.string (p.s k).data)) (go_keep)
       (first
        | (go_at_call 74;refine(yd _ _ _ lo hi (p.s k) _ ?_).mono ?_;(exact Hs.out.slot.zRX ((Below.refl _ _).drew));rintro e w1 ⟨⟨t,rfl,hx⟩,cA⟩;obtain rfl:t=false:=zQ hx HF.out;clear hx;have bA:=zK cA;have cB:=(Hx.out.zRX bA).1.1;have rA:=(Hx.out.zRX bA).2.1;have bB:=(Hs.out.zRX bA).c0;have tA:=(Hs.out.zRX bA).c1;have vA:=(Hs.out.zRX bA).c2)
        | (go_at_call 136;refine(zG8 _ _ _ _ _ lo hi lo hi p (p.s k) _ ?_ ?_).mono ?_;(exact Hp.out.zRX (zA hb bA));(exact Hs.out.slot.zRX bA);rintro e w2 ⟨⟨t2,rfl,iA⟩,pA⟩;obtain rfl:t2=false:=zQ iA HT.out;clear iA;have aA:=zA bA pA;have kA:=(Hx.out.zRX aA).1.1;have nA:=(Hx.out.zRX aA).2.1;have mA:=(Hs.out.zRX aA).c0;have jA:=(Hs.out.zRX aA).c1;have lA:=(Hs.out.zRX aA).c2))
      have gA:=zA hb aA;clear cA bA cB rA bB tA vA q0 q1 q2 y0 y1 y2 y3 Hs Hx kA nA mA jA lA pA aA;go_wp2;go_ret;refine⟨zG.no fun h=>?_,gA⟩;rcases h.2.1 k fA with h | h
      ·exact HF.out h
      ·exact HT.out h
   ·obtain rfl:k=p.n:=(by omega);have oB:p.n<=200:=(by omega);have HX:Hid (zc wr w.heap.size (.slice a p.n c) (.slice a' p.hn c')):=Hx.out;have HB:Hid (Below w.heap.size w wr):=hb;have HA:Hid (∀j,j<p.n->qE (p.s j)\/zAg p (p.s j)):=dA.out;clear Hx hb dA;go_wp2;obtain⟨wo,gB⟩:∃wo:World,wo=wr:=⟨_,rfl⟩;rw[<-gB]at HX HB ⊢;clear gB y0 y1 y2 y3
    go_loopw [4] (fun i wr=>∃k:Nat,k<=p.hn/\i = .int .i64 k/\(∀j,j<k->zKr p j)/\zc wr w.heap.size (.slice a p.n c) (.slice a' p.hn c')/\Below w.heap.size w wr) (fun i _=>p.hn - (intOf i).toNat)
    case atStart=>exact⟨0,Nat.zero_le _,rfl,fun j hj=>absurd hj (Nat.not_lt_zero _),HX.out,HB.out⟩
    case round=>
     obtain⟨k,hk,rfl,eA,hx,hb⟩:=hrel;have dA:Hid (∀j,j<k->zKr p j):=eA;have Hx:Hid (zc wr w.heap.size (.slice a p.n c) (.slice a' p.hn c')):=hx;clear eA hx;obtain⟨⟨y0,y1⟩,⟨y2,y3⟩⟩:=Hx.out;by_cases fA:k<p.hn
     ·have eB:(k:Int)<(p.hn:Int):=(by omega);have sA:=Hp.out.2.zRX hb;have fB:Hid (qV wr lo hi (.slice a' p.hn c') p.hn p.h):=sA;obtain⟨_,a2,pB,iB,_,iA⟩:=sA;simp only[Value.slice.injEq,true_and]at iB;obtain⟨rfl,rfl⟩:=iB;obtain⟨b,off,rfl,_,_,k1⟩:=iA (by omega);have mB:=k1 k fA;clear k1 iA;by_cases h1:p.h k<0
      ·go_wp2;go_ret;exact⟨zG.no fun h=>by have:=(h.2.2 k fA).1;omega,hb⟩
      ·by_cases h2:(p.n:Int)<=p.h k
       ·go_wp2;go_ret;exact⟨zG.no fun h=>by have:=(h.2.2 k fA).2.1;omega,hb⟩
       ·obtain⟨x,hx⟩:=Int.eq_ofNat_of_zero_le (show 0<=p.h k by omega);rw[hx]at mB h1 h2;have oA:Hid (p.h k=x):=hx;have nB:x<p.n:=(by omega);have lB:(x:Int)<(p.n:Int):=(by omega);clear hx;obtain⟨bs,aB,ka,kc,rfl,hs⟩:=(Hp.out.1.zRX hb).cells nB;have Hs:Hid (zAd wr bs (aB+x*3) lo hi ka kc (p.s x)):=hs;obtain⟨q0,q1,q2,_⟩:=hs;by_cases hf:qE (p.s x)
        ·have HF:Hid (qE (p.s x)):=hf;clear hf;go_wp2_with fail;refine(yd _ _ _ lo hi (p.s x) _ Hs.out.slot).mono ?_;rintro e w1 ⟨⟨t,rfl,hx⟩,cA⟩;obtain rfl:t=true:=hx.2 HF.out;clear hx;have gA:=zA hb cA;clear cA q0 q1 q2 y0 y1 y2 y3;go_wp2;go_ret;refine⟨zG.no fun h=>?_,gA⟩;have:=(h.2.2 k fA).2.2.1;rw[oA.out,Int.toNat_natCast]at this;exact this HF.out
        ·have HF:Hid (¬qE (p.s x)):=hf;clear hf;go_wp2_with fail;refine(yd _ _ _ lo hi (p.s x) _ Hs.out.slot).mono ?_;rintro e w1 ⟨⟨t,rfl,hx⟩,cA⟩;obtain rfl:t=false:=zQ hx HF.out;clear hx;have gA:=zA hb cA;have jB:Hid (zc w1 w.heap.size (.slice (some ⟨bs,aB,none⟩) p.n c) (.slice (some ⟨b,off,none⟩) p.hn c')):=Hx.out.zRX cA;have HI:Hid (qV w1 lo hi (.slice (some ⟨b,off,none⟩) k c') k p.h):=(fB.out.zRX cA).take (by omega) (by omega);clear cA q0 q1 q2 y0 y1 y2 y3;obtain⟨⟨y0,y1⟩,⟨y2,y3⟩⟩:=jB.out;have rB:k<=c':=(by omega);go_wp2_with fail;refine(zAV _ k lo hi p.h _ _ HI.out).mono ?_;rintro e w2 ⟨⟨t,rfl,hx⟩,rfl⟩;clear y0 y1 y2 y3;by_cases hh:Has k p.h (x:Int)
         ·obtain rfl:t=true:=hx.2 hh;have HH:Hid (Has k p.h (x:Int)):=hh;clear hx hh;go_wp2;go_ret;refine⟨zG.no fun h=>?_,gA⟩;have:=(h.2.2 k fA).2.2.2;rw[oA.out]at this;exact this HH.out
         ·obtain rfl:t=false:=zQ hx hh;have HH:Hid (zKr p k):=by
           refine⟨by rw[oA.out];exact Int.natCast_nonneg _,by rw[oA.out];exact lB,by rw[oA.out,Int.toNat_natCast];exact HF.out,by rw[oA.out];exact hh⟩
          clear hx hh;go_wp2;go_roundw
          case rel=>exact⟨k+1,by omega,by go_num,zo fA dA.out HH.out,jB.out,gA⟩
          case measure=>simp[intOf];omega
     ·obtain rfl:k=p.hn:=(by omega);go_wp2;go_ret;exact⟨zG.yes ⟨oB,HA.out,dA.out⟩,hb⟩
theorem zE{P:Prop}(h:P):Hid P:=h
theorem zB6(w:World)(a0 a1 x0 x1:Value)(t1 t2:TypeId) :
  zc ((w.alloc (.cells #[a0,a1] t1)).alloc (.cells #[x0,x1] t2)) w.heap.size a0 a1/\zc ((w.alloc (.cells #[a0,a1] t1)).alloc (.cells #[x0,x1] t2)) (w.heap.size+1) x0 x1/\
  Below w.heap.size w ((w.alloc (.cells #[a0,a1] t1)).alloc (.cells #[x0,x1] t2))/\((w.alloc (.cells #[a0,a1] t1)).alloc (.cells #[x0,x1] t2)).heap.size=w.heap.size+2:=by
 refine⟨(zc.zRZ w a0 a1 t1).zRX (zC _ _),?_,zA (zC _ _) (zC _ _),by simp⟩;have:=zc.zRZ (w.alloc (.cells #[a0,a1] t1)) x0 x1 t2;rw[World.size_alloc]at this;exact this
theorem zC7(v0 v1:Value)(lo hi:Nat)(p:zI)(xs xb:Int)(w:World)(h1:zu w lo hi v0 v1 p) :
  Calls Tryz.prog 139 #[.agg #[v0,v1],.agg #[.int .i64 xs,.int .i64 xb]] w fun e w'=>zG (zAi p xs xb) e/\Below w.heap.size w w':=by
 have Hp:=zE h1;obtain⟨a,c,a',c',rfl,rfl⟩:∃a c a' c',v0 = .slice a p.n c/\v1 = .slice a' p.hn c':=by
  obtain⟨⟨_,a,c,h1,_⟩,⟨_,a',c',h3,_⟩⟩:=h1;exact⟨a,c,a',c',h1,h3⟩
 clear h1;have iA:=zB6 w (.slice a p.n c) (.slice a' p.hn c') (.int .i64 xs) (.int .i64 xb) 33 61;go_enter Tryz.func139,Tryz.ntmps139;go_wp2_with fail;generalize (w.alloc (.cells #[.slice a p.n c,.slice a' p.hn c'] 33)).alloc (.cells #[.int .i64 xs,.int .i64 xb] 61)=W at iA ⊢;obtain⟨hB,hX,eA,hz⟩:=iA;refine(zDG _ _ lo hi p xs xb _ (Hp.out.zRX eA)).mono ?_;rintro e w1 ⟨⟨t,rfl,ht⟩,dA⟩;have kA:=zE (hB.zRX dA);have jA:=zE (hX.zRX dA);have bA:=zA eA dA;clear hB hX eA dA;by_cases aA:zr p xs xb
 ·obtain rfl:t=true:=ht.2 aA;have fA:=zE aA;obtain⟨k,rfl⟩:=Int.eq_ofNat_of_zero_le aA.2.1;have hk:k<p.n:=(by have:=aA.2.2.1;omega);have lA:(k:Int)<(p.n:Int):=(by omega);clear ht aA;obtain⟨b,off,ka,kc,rfl,hs⟩:=(Hp.out.1.zRX bA).cells hk;obtain⟨q0,q1,q2,_⟩:=hs;obtain⟨⟨x0,x1⟩,⟨x2,x3⟩⟩:=kA.out;obtain⟨⟨y0,y1⟩,⟨y2,y3⟩⟩:=jA.out;by_cases cA:0<(p.s k).kn
  ·have HK:=zE cA;have f1:(0:Int)<((p.s k).kn:Int):=by first | omega | simp[cA]
   clear cA;go_wp2_with fail;refine(zAV _ p.hn lo hi p.h _ _ (Hp.out.2.zRX bA)).mono ?_;rintro e w2 ⟨⟨t2,rfl,gA⟩,rfl⟩;have HT:=zE gA;clear gA x0 x1 x2 x3 y0 y1 y2 y3 q0 q1 q2;go_wp2;go_ret;refine⟨?_,bA⟩;by_cases hh:Has p.hn p.h (k:Int)
   ·obtain rfl:t2=true:=HT.out.2 hh;exact zG.no fun h=>h.2.2 hh
   ·obtain rfl:t2=false:=zQ HT.out hh;refine zG.yes ⟨fA.out,?_,hh⟩;rw[Int.toNat_natCast];exact HK.out
  ·have HK:=zE cA;have f1:¬(0:Int)<((p.s k).kn:Int):=by first | omega | (simp;omega)
   clear cA;go_wp2;go_ret;refine⟨zG.no fun h=>?_,bA⟩;have:=h.2.1;rw[Int.toNat_natCast]at this;exact HK.out this
 ·obtain rfl:t=false:=zQ ht aA;have fA:=zE aA;clear ht aA;go_wp2;go_ret;exact⟨zG.no fun h=>fA.out h.1,bA⟩
theorem zEc(v0 v1:Value)(lo hi:Nat)(p:zI)(xs xb:Int)(w:World)(h1:zu w lo hi v0 v1 p) :
  Calls Tryz.prog 140 #[.agg #[v0,v1],.agg #[.int .i64 xs,.int .i64 xb]] w fun e w'=>zG (zBo p xs xb) e/\Below w.heap.size w w':=by
 have Hp:=zE h1;obtain⟨a,c,a',c',rfl,rfl⟩:∃a c a' c',v0 = .slice a p.n c/\v1 = .slice a' p.hn c':=by
  obtain⟨⟨_,a,c,h1,_⟩,⟨_,a',c',h3,_⟩⟩:=h1;exact⟨a,c,a',c',h1,h3⟩
 clear h1;have iA:=zB6 w (.slice a p.n c) (.slice a' p.hn c') (.int .i64 xs) (.int .i64 xb) 33 61;go_enter Tryz.func140,Tryz.ntmps140;go_wp2_with fail;generalize (w.alloc (.cells #[.slice a p.n c,.slice a' p.hn c'] 33)).alloc (.cells #[.int .i64 xs,.int .i64 xb] 61)=W at iA ⊢;obtain⟨hB,hX,eA,hz⟩:=iA;refine(zDG _ _ lo hi p xs xb _ (Hp.out.zRX eA)).mono ?_;rintro e w1 ⟨⟨t,rfl,ht⟩,dA⟩;have kA:=zE (hB.zRX dA);have jA:=zE (hX.zRX dA);have bA:=zA eA dA;clear hB hX eA dA;by_cases aA:zr p xs xb
 ·obtain rfl:t=true:=ht.2 aA;have fA:=zE aA;obtain⟨k,rfl⟩:=Int.eq_ofNat_of_zero_le aA.2.1;have hk:k<p.n:=(by have:=aA.2.2.1;omega);have lA:(k:Int)<(p.n:Int):=(by omega);clear ht aA;obtain⟨b,off,ka,kc,rfl,hs⟩:=(Hp.out.1.zRX bA).cells hk;obtain⟨q0,q1,q2,_⟩:=hs;obtain⟨⟨x0,x1⟩,⟨x2,x3⟩⟩:=kA.out;obtain⟨⟨y0,y1⟩,⟨y2,y3⟩⟩:=jA.out;by_cases cA:(p.s k).kn=0
  ·have HK:=zE cA;have f1:(((p.s k).kn:Int) == 0)=true:=by first | omega | simp[cA]
   clear cA;go_wp2_with fail;refine(zAV _ p.hn lo hi p.h _ _ (Hp.out.2.zRX bA)).mono ?_;rintro e w2 ⟨⟨t2,rfl,gA⟩,rfl⟩;have HT:=zE gA;clear gA x0 x1 x2 x3 y0 y1 y2 y3 q0 q1 q2;go_wp2;go_ret;refine⟨?_,bA⟩;by_cases hh:Has p.hn p.h (k:Int)
   ·obtain rfl:t2=true:=HT.out.2 hh;exact zG.no fun h=>h.2.2 hh
   ·obtain rfl:t2=false:=zQ HT.out hh;refine zG.yes ⟨fA.out,?_,hh⟩;rw[Int.toNat_natCast];exact HK.out
  ·have HK:=zE cA;have f1:(((p.s k).kn:Int) == 0)=false:=by first | omega | (simp;omega)
   clear cA;go_wp2;go_ret;refine⟨zG.no fun h=>?_,bA⟩;have:=h.2.1;rw[Int.toNat_natCast]at this;exact HK.out this
 ·obtain rfl:t=false:=zQ ht aA;have fA:=zE aA;clear ht aA;go_wp2;go_ret;exact⟨zG.no fun h=>fA.out h.1,bA⟩
def zOf(p:zI)(Low:zL->Prop)(s:zL):Prop:=(∃i,i<8/\¬Nil (zb s i) (zt s i))/\∀i,i<8->Nil (zb s i) (zt s i)\/Low (p.s (zb s i).toNat)
def zGC(p:zI)(L:Int)(Low:zL->Prop):Prop:=∀(v:Value) (lo hi:Nat) (xs xb:Int) (w:World),qA w lo hi v p.n p.s->zr p xs xb->
 Calls Tryz.prog 195 #[v,.agg #[.int .i64 xs,.int .i64 xb],.int .i64 L] w fun e w'=>zG (Low (p.s xs.toNat)) e/\Below w.heap.size w w'
theorem zJI(s:zL):zGn (zj s) (fun _=>0)=true↔¬∃i,i<8/\¬Nil (zb s i) (zt s i):=by
 rw[zIc];constructor
 ·rintro h ⟨i,hi,hn⟩;exact hn (h i hi)
 ·intro h i hi;by_cases hn:Nil (zb s i) (zt s i)
  ·exact hn
  ·exact absurd ⟨i,hi,hn⟩ h
theorem zMi(p:zI):zGC p 2 zHP:=by
 intro v lo hi xs xb w hs hP;have Hs:=zE hs;obtain⟨_,a,c,rfl,_⟩:=id hs;obtain⟨k,rfl⟩:=Int.eq_ofNat_of_zero_le hP.2.1;have hk:k<p.n:=by have:=hP.2.2.1;omega
 have dA:(k:Int)<(p.n:Int):=by omega
 have ha:=zC w (.cells #[.int .i64 (k:Int),.int .i64 xb] 61);obtain⟨⟨x0,x1⟩,⟨x2,x3⟩⟩:=zc.zRZ w (.int .i64 (k:Int)) (.int .i64 xb) 61;obtain⟨b,off,ka,kc,rfl,bA⟩:=(Hs.out.zRX ha).cells hk;have HC:=zE bA;obtain⟨q0,q1,q2,_⟩:=bA;clear hs hP;go_enter Tryz.func195,Tryz.ntmps195;go_wp2_with fail;have cA:=zC (w.alloc (.cells #[.int .i64 (k:Int),.int .i64 xb] 61)) (.cells #[.int .i64 (p.s k).zRi,.slice ka (p.s k).kn kc,.string (p.s k).data] 127);refine(zH4 _ _ _ lo hi (p.s k) _ (HC.out.slot.zRX cA)).mono ?_;rintro e w1 ⟨⟨t,rfl,ht⟩,aA⟩;have hB:=zA (zA ha cA) aA;have HT:=zE ht;clear ht aA;go_wp2;go_ret;refine⟨⟨t,rfl,?_⟩,hB⟩;rw[Int.toNat_natCast];exact HT.out
theorem zHs(p:zI)(L:Int)(mA:zL->Prop)(hR:zx p)(hL:0<=L/\L<2)(cA:zGC p (L+1) mA):zGC p L (zOf p mA):=by
 intro v lo hi xs xb w hs hP;have jA:=zE cA;have HR:=zE hR;have Hs:=zE hs;have HP:=zE hP;have Hf:=zE (qS hR hP);obtain⟨_,a,c,rfl,_⟩:=id hs;obtain⟨k,rfl⟩:=Int.eq_ofNat_of_zero_le hP.2.1;rw[Int.toNat_natCast]at Hf;have hk:k<p.n:=by have:=hP.2.2.1;omega
 have cB:(k:Int)<(p.n:Int):=by omega
 have dB:(L == 2)=false:=by simp;omega
 have ha:=zC w (.cells #[.int .i64 (k:Int),.int .i64 xb] 61);obtain⟨⟨x0,x1⟩,⟨x2,x3⟩⟩:=zc.zRZ w (.int .i64 (k:Int)) (.int .i64 xb) 61;obtain⟨b,off,ka,kc,rfl,nA⟩:=(Hs.out.zRX ha).cells hk;have HC:=zE nA;obtain⟨q0,q1,q2,_⟩:=nA;clear hs hP cA hR;go_enter Tryz.func195,Tryz.ntmps195;go_wp2_with fail;have kA:=zC (w.alloc (.cells #[.int .i64 (k:Int),.int .i64 xb] 61)) (.cells #[.int .i64 (p.s k).zRi,.slice ka (p.s k).kn kc,.string (p.s k).data] 127);refine(zDp _ _ _ lo hi (p.s k) _ (HC.out.slot.zRX kA) (zEy Hf.out)).mono ?_;rintro e w1 ⟨rfl,pA⟩;have hB:=zA (zA ha kA) pA;clear pA ha kA x0 x1 x2 x3 q0 q1 q2 HC;have aA:Hid ((Tryz.prog.info? 155).map (·.size)=some (qF (p.s k)).size):=by
  show _=_;rw[qF,qB];exact zBy
 have aB:Hid ((#[Value.int .i64 0,Value.int .i64 0,Value.int .i64 0,Value.int .i64 0,Value.int .i64 0,Value.int .i64 0,Value.int .i64 0,Value.int .i64 0,Value.int .i64 0,Value.int .i64 0,Value.int .i64 0,Value.int .i64 0,Value.int .i64 0,Value.int .i64 0,Value.int .i64 0,Value.int .i64 0]:Array Value)=zp (fun _=>0)):=rfl;have sA:∀w,(binOp .eql 155 (.agg (qF (p.s k))) (.agg #[Value.int .i64 0,Value.int .i64 0,Value.int .i64 0,Value.int .i64 0,Value.int .i64 0,Value.int .i64 0,Value.int .i64 0,Value.int .i64 0,Value.int .i64 0,Value.int .i64 0,Value.int .i64 0,Value.int .i64 0,Value.int .i64 0,Value.int .i64 0,Value.int .i64 0,Value.int .i64 0])).run Tryz.prog w = .ok (.bool (zGn (zj (p.s k)) (fun _=>0))) w:=fun w=>zKh (zj (p.s k)) (fun _=>0) w
 have dA:(w1.alloc (.cells (qF (p.s k)) 155)).heap[w1.heap.size]?=some (.cells (qF (p.s k)) 155 (0,0)):=heap_alloc_last _ _;have HK:=zE dA;have oA:=zA hB (zC w1 (.cells (qF (p.s k)) 155));clear dA hB;by_cases hz:zGn (zj (p.s k)) (fun _=>0)=true
 ·have HZ:=zE ((zJI _).1 hz);go_wp2_with (first
   | (refine wpList_store_row rfl 155 (.tmp 8) (.tmp 20) rfl w1.heap.size (qF (p.s k)) rfl rfl 155 #[Value.int .i64 0,Value.int .i64 0,Value.int .i64 0,Value.int .i64 0,Value.int .i64 0,Value.int .i64 0,Value.int .i64 0,Value.int .i64 0,Value.int .i64 0,Value.int .i64 0,Value.int .i64 0,Value.int .i64 0,Value.int .i64 0,Value.int .i64 0,Value.int .i64 0,Value.int .i64 0] (heap_alloc_last _ _) aA.out (by rw[qF,qB];rfl) (zAq _) ?_;rw[World.setRow_alloc_new])
   | (refine wpList_load_row rfl 155 (.tmp 8) rfl w1.heap.size rfl 155 (qF (p.s k)) (0,0) _ HK.out zHM rfl aA.out ?_))
  go_ret;exact⟨zG.no fun h=>HZ.out (by rw[Int.toNat_natCast]at h;exact h.1),oA⟩
 ·have HZ:Hid (∃i,i<8/\¬Nil (zb (p.s k) i) (zt (p.s k) i)):=by
   by_cases h:∃i,i<8/\¬Nil (zb (p.s k) i) (zt (p.s k) i)
   ·exact h
   ·exact absurd ((zJI _).2 h) hz
  have fB:zGn (zj (p.s k)) (fun _=>0)=false:=(by simpa using hz);clear hz;go_wp2_with (first
   | (refine wpList_store_row rfl 155 (.tmp 8) (.tmp 20) rfl w1.heap.size (qF (p.s k)) rfl rfl 155 #[Value.int .i64 0,Value.int .i64 0,Value.int .i64 0,Value.int .i64 0,Value.int .i64 0,Value.int .i64 0,Value.int .i64 0,Value.int .i64 0,Value.int .i64 0,Value.int .i64 0,Value.int .i64 0,Value.int .i64 0,Value.int .i64 0,Value.int .i64 0,Value.int .i64 0,Value.int .i64 0] (heap_alloc_last _ _) aA.out (by rw[qF,qB];rfl) (zAq _) ?_;rw[World.setRow_alloc_new])
   | (refine wpList_load_row rfl 155 (.tmp 8) rfl w1.heap.size rfl 155 (qF (p.s k)) (0,0) _ HK.out zHM rfl aA.out ?_))
  have eB:w1.heap.size<(w1.alloc (.cells (qF (p.s k)) 155)).heap.size:=by rw[World.size_alloc];exact Nat.lt_succ_self _
  go_loopw [24] (fun i wr=>∃j:Nat,j<=8/\i = .int .i64 j/\(∀m,m<j->Nil (zb (p.s k) m) (zt (p.s k) m)\/mA (p.s (zb (p.s k) m).toNat))/\wr.heap[w1.heap.size]?=some (.cells (qF (p.s k)) 155 (0,0))/\Below w.heap.size w wr) (fun i _=>8 - (intOf i).toNat)
  case atStart=>exact⟨0,Nat.zero_le _,rfl,fun m hm=>absurd hm (Nat.not_lt_zero _),HK.out,oA⟩
  case round=>
   obtain⟨j,hj,rfl,eA,hK,hb⟩:=hrel;have bA:=zE eA;have fA:=zE hK;have lA:w1.heap.size<wr.heap.size:=(Array.getElem?_eq_some_iff.1 hK).1;clear eA hK;by_cases gA:j<8
   ·have bB:(j:Int)<8:=(by omega);obtain⟨y0,y1⟩:=zJ (i:=j*2) fA.out (yO (zj (p.s k)) (by omega));obtain⟨y2,y3⟩:=zJ (i:=j*2+1) fA.out (yO (zj (p.s k)) (by omega));by_cases hn:Nil (zb (p.s k) j) (zt (p.s k) j)
    ·have HN:=zE hn;rw[show zj (p.s k) (j*2)=0 from hn.1]at y0;rw[show zj (p.s k) (j*2+1)=0 from hn.2]at y2;clear hn;go_wp2;go_roundw
     case rel=>exact⟨j+1,by omega,by go_num,zo (n:=8) gA bA.out (Or.inl HN.out),fA.out,hb⟩
     case measure=>simp[intOf];omega
    ·have HN:=zE hn;have vA:=zE (zAl Hf.out gA hn).1;have e0:(zj (p.s k) (j*2) == 0)=false\/(zj (p.s k) (j*2) == 0)=true/\(zj (p.s k) (j*2+1) == 0)=false:=by
      by_cases h:zj (p.s k) (j*2)=0
      ·right;refine⟨by simp[h],?_⟩;have:zj (p.s k) (j*2+1)≠0:=fun h'=>hn ⟨h,h'⟩
       simp[this]
      ·left;simp[h]
     clear hn;rcases e0 with e0 | ⟨e0,e1⟩
     all_goals
      go_wp2_with fail;refine(jA.out _ lo hi (zj (p.s k) (j*2)) (zj (p.s k) (j*2+1)) _ (Hs.out.zRX hb) vA.out).mono ?_;rintro e w2 ⟨⟨t,rfl,ht⟩,iA⟩;have HT:=zE ht;have tA:=zE ((iA.block _ lA).trans fA.out);have rA:=zA hb iA;clear ht iA y0 y1 y2 y3;cases t
      ·go_wp2;go_ret;refine⟨zG.no fun h=>?_,rA⟩;rw[Int.toNat_natCast]at h;rcases h.2 j gA with h1 | h1
       ·exact HN.out h1
       ·exact absurd (HT.out.2 h1) (by simp)
      ·go_wp2;go_roundw
       case rel=>exact⟨j+1,by omega,by go_num,zo (n:=8) gA bA.out (Or.inr (HT.out.1 trivial)),tA.out,rA⟩
       case measure=>simp[intOf];omega
   ·obtain rfl:j=8:=(by omega);go_wp2;go_ret;exact⟨zG.yes (by rw[Int.toNat_natCast];exact⟨HZ.out,bA.out⟩),hb⟩
theorem zMy(p:zI)(hR:zx p):zGC p 1 (zKl p):=zHs p 1 zHP hR (by omega) (zMi p)
theorem zHm(p:zI)(hR:zx p):zGC p 0 (zKf p):=zHs p 0 (zKl p) hR (by omega) (zMy p hR)
def zNg(s:zL)(w:World)(e:Ending)(w':World):Prop:=
 ∃kv kb,e = .returned (.agg #[.int .i64 s.zRi,kv,.string s.data])/\zm w' kb kv s.kn s.ks s.kb/\(0<s.kn->w.heap.size<=kb/\kb<w'.heap.size)/\Below w.heap.size w w'
def kc(f g:Nat->Int):Nat->List Value
 | 0=>[]
 | k+1=>kc f g k ++ [.int .i64 (f k),.int .i64 (g k)]
theorem zEZ(f g:Nat->Int)(k:Nat):(kc f g k).length=k*2:=by
 induction k with
 | zero=>rfl
 | succ k ih=>simp[kc,ih];omega
theorem zP8(f g:Nat->Int)(k i r:Nat)(hi:i<k)(hr:r<2):(kc f g k)[i*2+r]? = [Value.int .i64 (f i),.int .i64 (g i)][r]?:=by
 induction k with
 | zero=>omega
 | succ k ih=>
  unfold kc;by_cases e:i<k
  ·rw[List.getElem?_append_left (by rw[zEZ];omega)];exact ih e
  ·obtain rfl:i=k:=(by omega);rw[List.getElem?_append_right (by rw[zEZ];omega),zEZ];congr 1;omega
theorem zJ3(f g:Nat->Int)(k:Nat):∀u∈kc f g k,u.oneCell'=true:=by
 induction k with
 | zero=>intro u hu;simp[kc]at hu
 | succ k ih=>
  intro u hu;simp only[kc,List.mem_append,List.mem_cons,List.not_mem_nil,or_false]at hu;rcases hu with hu | rfl | rfl
  ·exact ih u hu
  ·rfl
  ·rfl
theorem zFs{w:World}{b off:Nat}{f g:Nat->Int}{n:Nat}(h:∀i,i<n->w.cell? ⟨b,off+i*2,none⟩=some (.int .i64 (f i))/\w.cell? ⟨b,off+i*2+1,none⟩=some (.int .i64 (g i))) :
  ∀j u,(kc f g n)[j]?=some u->w.cell? ((⟨b,off,none⟩:Addr).add j)=some u:=by
 intro j u hj;have bA:j<n*2:=by
  have:=(List.getElem?_eq_some_iff.1 hj).1
  rwa [zEZ]at this
 have aA:(⟨b,off,none⟩:Addr).add j=⟨b,off+j,none⟩:=by unfold Addr.add;split<;>simp_all
 rw[aA];obtain⟨c0,c1⟩:=h (j / 2) (by omega);have e:=zP8 f g n (j / 2) (j % 2) (by omega) (by omega);rw[show j / 2*2+j % 2=j by omega,hj]at e;rcases(by omega:j % 2=0\/j % 2=1)with hm | hm
 ·rw[hm]at e;simp at e;subst e;rw[show off+j=off+j / 2*2 by omega];exact c0
 ·rw[hm]at e;simp at e;subst e;rw[show off+j=off+j / 2*2+1 by omega];exact c1
theorem zCQ{w:World}{base e n:Nat}{v:Value}{f g:Nat->Int}(hm:n<=maxLen)(h:w.ownsRow base e 2 v n (kc f g n)):∃kb,zm w kb v n f g/\(0<n->base<=kb/\kb<w.heap.size):=by
 by_cases h0:0<n
 ·obtain⟨gb,cA,rfl,bA,hb,dA,aA⟩:=qZ h h0;refine⟨gb,⟨hm,_,cA,rfl,bA,fun _=>⟨0,rfl,fun i hi=>⟨?_,?_⟩⟩⟩,fun _=>⟨hb,dA⟩⟩
  ·have:=aA (i*2+0) _ (zP8 f g n i 0 hi (by omega));simpa using this
  ·have:=aA (i*2+1) _ (zP8 f g n i 1 hi (by omega));simpa using this
 ·obtain⟨a,cA,rfl,bA⟩:=zY h;exact⟨0,⟨hm,a,cA,rfl,bA,fun h=>absurd h h0⟩,fun h=>absurd h h0⟩
theorem zIO{P:Program}{w:World}(base:Nat)(t ty e:TypeId)(i:TypeInfo)(size c:Nat)(ht:P.underlying t=some (.slice e))(hi:P.info? e=some i)
  (v:Value) (n:Nat) (xs:List Value) (aA:w.ownsRow base e size v n xs) :
  (Builtin.append_ #[t,t] ty #[v,.slice none 0 c]).run P w = .ok v w:=by
 rcases aA.2 with⟨rfl,rfl⟩ | ⟨g,cA,dA,rfl,_,_,bA,_⟩
 ·simp[Builtin.append_,run_underlying ht,sizeOf,typeInfo,hi,Builtin.lenOf,Builtin.firstCells]
 ·simp[Builtin.append_,run_underlying ht,sizeOf,typeInfo,hi,Builtin.lenOf,Builtin.firstCells,bA,storeCells]
theorem zFq{P:Program}{w:World}{dA:Array Oper}{aA:List Oper}{o:Oper}{a:Act}{Q:Exit->Act->World->Prop}(eA:o.guard=none)(s x:Operand)(t:TypeId)
  (ho:o.op = .call {callee:=.builtin .append,args:=#[s,x],argTypes:=#[t,t]})
  (base:Nat) (e:TypeId) (i:TypeInfo) (size c m:Nat) (ht:P.underlying t=some (.slice e)) (hi:P.info? e=some i)
  (v:Value) (n:Nat) (xs:List Value) (hs:a.eval s=v) (bA:w.ownsRow base e size v n xs) (hm:m=0) (hx:a.eval x = .slice none m c)
  (h:wpList P dA Q aA (a.put o.dst v) w):wpList P dA Q (o :: aA) a w:=by
 subst hm;refine wpList_plain eA fun K hK=>?_
 have cA:=zIO (P:=P) (w:=w) base t o.type e i size c ht hi v n xs bA;unfold Oper.wp;simp[execOp,ho,resolve,invoke,builtin,hs,hx,cA,Result.andThen];exact hK _ _ h
theorem zA5{P:Program}{w:World}(base:Nat)(t ty e:TypeId)(i:TypeInfo)(size c:Nat)(ao:Option Addr)(ht:P.underlying t=some (.slice e))(hi:P.info? e=some i)
  (v:Value) (n:Nat) (xs:List Value) (aA:w.ownsRow base e size v n xs) :
  (Builtin.append_ #[t,t] ty #[v,.slice ao 0 c]).run P w = .ok v w:=by
 rcases aA.2 with⟨rfl,rfl⟩ | ⟨g,cA,dA,rfl,_,_,bA,_⟩
 ·cases ao<;>simp[Builtin.append_,run_underlying ht,sizeOf,typeInfo,hi,Builtin.lenOf,Builtin.firstCells,loadCells,loadCellsFrom]
 ·cases ao<;>simp[Builtin.append_,run_underlying ht,sizeOf,typeInfo,hi,Builtin.lenOf,Builtin.firstCells,bA,storeCells,loadCells,loadCellsFrom]
theorem zFV{P:Program}{w:World}{dA:Array Oper}{aA:List Oper}{o:Oper}{a:Act}{Q:Exit->Act->World->Prop}(eA:o.guard=none)(s x:Operand)(t:TypeId)
  (ho:o.op = .call {callee:=.builtin .append,args:=#[s,x],argTypes:=#[t,t]})
  (base:Nat) (e:TypeId) (i:TypeInfo) (size c m:Nat) (ao:Option Addr) (ht:P.underlying t=some (.slice e)) (hi:P.info? e=some i)
  (v:Value) (n:Nat) (xs:List Value) (hs:a.eval s=v) (bA:w.ownsRow base e size v n xs) (hm:m=0) (hx:a.eval x = .slice ao m c)
  (h:wpList P dA Q aA (a.put o.dst v) w):wpList P dA Q (o :: aA) a w:=by
 subst hm;refine wpList_plain eA fun K hK=>?_
 have cA:=zA5 (P:=P) (w:=w) base t o.type e i size c ao ht hi v n xs bA;unfold Oper.wp;simp[execOp,ho,resolve,invoke,builtin,hs,hx,cA,Result.andThen];exact hK _ _ h
theorem zCj:(Tryz.prog.info? 61).map (fun i=>(i.zero,i.size,i.bytes))=some (some (.agg #[.int .i64 0,.int .i64 0]),2,16):=by kernel_rfl
def sc(f:Nat->zL)(kv:Nat->Value):Nat->List Value
 | 0=>[]
 | k+1=>sc f kv k ++ [.int .i64 (f k).zRi,kv k,.string (f k).data]
theorem zDr(f:Nat->zL)(kv:Nat->Value)(k:Nat):(sc f kv k).length=k*3:=by
 induction k with
 | zero=>rfl
 | succ k ih=>simp[sc,ih];omega
theorem zEX(f:Nat->zL)(kv:Nat->Value)(k i r:Nat)(hi:i<k)(hr:r<3):(sc f kv k)[i*3+r]? = [Value.int .i64 (f i).zRi,kv i,.string (f i).data][r]?:=by
 induction k with
 | zero=>omega
 | succ k ih=>
  unfold sc;by_cases e:i<k
  ·rw[List.getElem?_append_left (by rw[zDr];omega)];exact ih e
  ·obtain rfl:i=k:=(by omega);rw[List.getElem?_append_right (by rw[zDr];omega),zDr];congr 1;omega
theorem zOy(f:Nat->zL){kv aA:Nat->Value}{k:Nat}(h:∀i,i<k->kv i=aA i):sc f kv k=sc f aA k:=by
 induction k with
 | zero=>rfl
 | succ k ih=>
  unfold sc;rw[ih (fun i hi=>h i (by omega)),h k (by omega)]
theorem zPf(f:Nat->zL)(kv:Nat->Value)(k:Nat)(h:∀i,i<k->(kv i).oneCell'=true):∀u∈sc f kv k,u.oneCell'=true:=by
 induction k with
 | zero=>intro u hu;simp[sc]at hu
 | succ k ih=>
  intro u hu;simp only[sc,List.mem_append,List.mem_cons,List.not_mem_nil,or_false]at hu;rcases hu with hu | rfl | rfl | rfl
  ·exact ih (fun i hi=>h i (by omega)) u hu
  ·rfl
  ·exact h k (by omega)
  ·rfl
theorem zCL{w w1:World}{row:Option Nat}(h:w.grownBy w1 row):zF (fun b=>row=some b) w w1:=⟨h.os,h.tape,h.output,h.size,fun k hk hs=>h.block k hk (fun e=>hs e.symm)⟩
theorem zBf{w w1:World}(h:Below w.heap.size w w1)(row:Option Nat):w.grownBy w1 row:=⟨h.os,h.tape,h.output,h.size,fun k hk _=>h.block k hk⟩
structure zE4 (w:World) (lo k:Nat) (f:Nat->zL) (kb:Nat->Nat) (kv:Nat->Value) (v:Value):Prop where
 row:w.ownsRow lo 127 3 v k (sc f kv k)
 kids:∀j,j<k->zm w (kb j) (kv j) (f j).kn (f j).ks (f j).kb
 zRm:∀j,j<k->0<(f j).kn->lo<=kb j/\kb j<w.heap.size/\v.ownBlock≠some (kb j)
 zRk:yP kb k f
 zRn:∀j,j<k->(f j).data.size<=maxLen
theorem zE4.nil(w:World)(lo:Nat)(f:Nat->zL):zE4 w lo 0 f (fun _=>0) (fun _=>.slice none 0 0) (.slice none 0 0):=
 ⟨World.ownsRow_nil _ _ _ _,fun j hj=>absurd hj (Nat.not_lt_zero _),fun j hj=>absurd hj (Nat.not_lt_zero _),fun i j hi=>absurd hi (Nat.not_lt_zero _),fun j hj=>absurd hj (Nat.not_lt_zero _)⟩
theorem zE4.zRX{w w':World}{lo k:Nat}{f:Nat->zL}{kb:Nat->Nat}{kv:Nat->Value}{v:Value}(h:zE4 w lo k f kb kv v)(t:Below w.heap.size w w'):zE4 w' lo k f kb kv v:=
 ⟨h.row.kept (zBf t none) (by cases hv:v.ownBlock<;>simp),fun j hj=>(h.kids j hj).zRX t,fun j hj h0=>by have h1:=h.zRm j hj h0;have:=t.size;exact⟨h1.1,by omega,h1.2.2⟩,h.zRk,h.zRn⟩
theorem zE4.next{w w1:World}{lo k:Nat}{f:Nat->zL}{kb:Nat->Nat}{kv:Nat->Value}{v:Value}(h:zE4 w lo k f kb kv v){nb g cA:Nat}{nv:Value}(hp:zm w nb nv (f k).kn (f k).ks (f k).kb)
  (aA:0<(f k).kn->lo<=nb/\nb<w.heap.size/\v.ownBlock≠some nb/\∀j,j<k->0<(f j).kn->kb j≠nb) (hs:(f k).data.size<=maxLen)
  (bA:w1.ownsRow lo 127 3 (.slice (some ⟨g,0,none⟩) (k+1) cA) (k+1) (sc f kv k ++ [.int .i64 (f k).zRi,nv,.string (f k).data])) (hg:w.grownBy w1 v.ownBlock) (eA:v.ownBlock=some g\/g=w.heap.size) :
  zE4 w1 lo (k+1) f (fun j=>if j=k then nb else kb j) (fun j=>if j=k then nv else kv j) (.slice (some ⟨g,0,none⟩) (k+1) cA):=by
 have t:=zCL hg;have jA:=t.size;have dA:∀b,b<w.heap.size->v.ownBlock≠some b->(Value.slice (some ⟨g,0,none⟩) (k+1) cA).ownBlock≠some b:=fun b hb gA e=>by
  have fA:g=b:=(by simpa[Value.ownBlock]using e);rcases eA with hx | hx
  ·exact gA (by rw[hx,fA])
  ·omega
 refine⟨?_,fun j hj=>?_,fun j hj h0=>?_,fun i j hi hj iA h1 h2=>?_,fun j hj=>?_⟩
 ·have e:sc f (fun j=>if j=k then nv else kv j) (k+1)=sc f kv k ++ [.int .i64 (f k).zRi,nv,.string (f k).data]:=by
   show sc f _ k ++ [.int .i64 (f k).zRi,(if k=k then nv else kv k),.string (f k).data]=_;rw[if_pos rfl,zOy f (fun i hi=>if_neg (by omega))]
  rw[e];exact bA
 ·by_cases e:j=k
  ·subst e;simp only[if_true];exact hp.zRf t (fun h0=>(aA h0).2.2.1)
  ·simp only[if_neg e];exact(h.kids j (by omega)).zRf t (fun h0=>(h.zRm j (by omega) h0).2.2)
 ·by_cases e:j=k
  ·subst e;simp only[if_true];obtain⟨h1,h2,h3,_⟩:=aA h0;exact⟨h1,by omega,dA _ h2 h3⟩
  ·simp only[if_neg e];obtain⟨h1,h2,h3⟩:=h.zRm j (by omega) h0;exact⟨h1,by omega,dA _ h2 h3⟩
 ·show(if i=k then nb else kb i)≠(if j=k then nb else kb j);by_cases e1:i=k
  ·by_cases e2:j=k
   ·omega
   ·rw[if_pos e1,if_neg e2];subst e1;exact fun e=>(aA h1).2.2.2 j (by omega) h2 e.symm
  ·by_cases e2:j=k
   ·rw[if_neg e1,if_pos e2];subst e2;exact(aA h2).2.2.2 i (by omega) h1
   ·rw[if_neg e1,if_neg e2];exact h.zRk i j (by omega) (by omega) iA h1 h2
 ·by_cases e:j=k
  ·subst e;exact hs
  ·exact h.zRn j (by omega)
theorem zE4.put{w:World}{lo k:Nat}{f:Nat->zL}{kb:Nat->Nat}{kv:Nat->Value}{v:Value}(h:zE4 w lo k f kb kv v){b o:Nat}(hb:b<lo)(u:Value):zE4 (w.setCell ⟨b,o,none⟩ u) lo k f kb kv v:=
 ⟨ownsRow_setCell_below h.row hb u,fun j hj=>(h.kids j hj).zRf (zF.put _ _ _ _) (fun h0 e=>by have:=h.zRm j hj h0;omega),fun j hj h0=>by rw[World.size_setCell];exact h.zRm j hj h0,h.zRk,h.zRn⟩
theorem zE4.own{w:World}{lo n:Nat}{f:Nat->zL}{kb:Nat->Nat}{kv:Nat->Value}{v:Value}(h:zE4 w lo n f kb kv v)(hn:n<=maxLen) :
  ∃bs,qU w bs kb kv v n f/\∀k,yi bs kb n f k->lo<=k/\k<w.heap.size:=by
 by_cases h0:0<n
 ·obtain⟨g,cA,rfl,bA,hb,eA,aA⟩:=qZ h.row h0;refine⟨g,⟨hn,_,cA,rfl,bA,fun _=>⟨0,rfl,fun i hi=>⟨?_,?_,?_,h.kids i hi,h.zRn i hi,fun hk e=>(h.zRm i hi hk).2.2 (by rw[e];rfl)⟩⟩⟩,fun k hk=>?_⟩
  ·have:=aA (i*3+0) _ (zEX f kv n i 0 hi (by omega));simpa using this
  ·have:=aA (i*3+1) _ (zEX f kv n i 1 hi (by omega));simpa using this
  ·have:=aA (i*3+2) _ (zEX f kv n i 2 hi (by omega));simpa using this
  ·rcases hk with⟨_,rfl⟩ | ⟨i,hi,dA,rfl⟩
   ·exact⟨hb,eA⟩
   ·exact⟨(h.zRm i hi dA).1,(h.zRm i hi dA).2.1⟩
 ·obtain⟨a,cA,rfl,bA⟩:=zY h.row;refine⟨0,⟨hn,a,cA,rfl,bA,fun hx=>absurd hx h0⟩,fun k hk=>?_⟩;rcases hk with⟨hx,_⟩ | ⟨i,hi,_⟩
  ·exact absurd hx h0
  ·omega
def ic(f:Nat->Int):Nat->List Value
 | 0=>[]
 | k+1=>ic f k ++ [.int .i64 (f k)]
theorem zBu(f:Nat->Int)(k:Nat):(ic f k).length=k*1:=by
 induction k with
 | zero=>rfl
 | succ k ih=>simp[ic,ih]
theorem zLZ(f:Nat->Int)(k i:Nat)(hi:i<k):(ic f k)[i]?=some (Value.int .i64 (f i)):=by
 induction k with
 | zero=>omega
 | succ k ih=>
  unfold ic;by_cases e:i<k
  ·rw[List.getElem?_append_left (by rw[zBu];omega)];exact ih e
  ·obtain rfl:i=k:=(by omega);rw[List.getElem?_append_right (by rw[zBu];omega),zBu];simp
theorem zPG(f:Nat->Int)(k:Nat):∀u∈ic f k,u.oneCell'=true:=by
 induction k with
 | zero=>intro u hu;simp[ic]at hu
 | succ k ih=>
  intro u hu;simp only[ic,List.mem_append,List.mem_cons,List.not_mem_nil,or_false]at hu;rcases hu with hu | rfl
  ·exact ih u hu
  ·rfl
theorem add_lit(b off j:Nat):(⟨b,off,none⟩:Addr).add j=⟨b,off+j,none⟩:=by unfold Addr.add;split<;>simp_all
theorem zPe{w:World}{b off:Nat}{f:Nat->Int}{n:Nat}(h:∀i,i<n->w.cell? ⟨b,off+i,none⟩=some (.int .i64 (f i))) :
  ∀j u,(ic f n)[j]?=some u->w.cell? ((⟨b,off,none⟩:Addr).add j)=some u:=by
 intro j u hj;have aA:j<n:=by
  have:=(List.getElem?_eq_some_iff.1 hj).1;rw[zBu]at this;omega
 rw[zLZ f n j aA]at hj;rw[add_lit,h j aA];exact hj
theorem zLc{w:World}{base e g n bA:Nat}{xs:List Value}(h:w.ownsRow base e 1 (.slice (some ⟨g,0,none⟩) n bA) n xs)(h0:0<n):0<n/\(some ⟨g,0,none⟩:Option Addr)=some ⟨g,0,none⟩/\bA<=maxLen/\∃aA,w.heap[g]?=some (.cells aA e (0,0))/\aA.size=bA:=by
 obtain⟨_,⟨h,rfl⟩ | ⟨g',cA,aA,hv,_,hg,_,h2,h3,_⟩⟩:=h
 ·omega
 ·simp only[Value.slice.injEq,Option.some.injEq,Addr.mk.injEq,and_true,true_and]at hv;obtain⟨rfl,rfl⟩:=hv;exact⟨h0,rfl,h2,aA,hg,by simpa using h3⟩
theorem zJ0{w:World}{base n:Nat}{v:Value}{f:Nat->Int}(hm:n<=maxLen)(h:w.ownsRow base 2 1 v n (ic f n))(hz:n=0->∃a,v = .slice a 0 0):∃hb,qf w hb v n f/\(0<n->base<=hb/\hb<w.heap.size):=by
 by_cases h0:0<n
 ·obtain⟨gb,cA,rfl,bA,hb,dA,aA⟩:=qZ h h0;refine⟨gb,⟨hm,_,cA,rfl,bA,fun _=>⟨0,rfl,fun i hi=>?_⟩,fun _=>?_⟩,fun _=>⟨hb,dA⟩⟩
  ·have:=aA i _ (zLZ f n i hi);simpa using this
  ·exact zLc h h0
 ·obtain⟨a,cA,rfl,bA⟩:=zY h;exact⟨0,⟨hm,a,cA,rfl,bA,fun h=>absurd h h0,fun dA=>by obtain⟨a2,e2⟩:=hz (by omega);simp only[Value.slice.injEq]at e2;omega⟩,fun h=>absurd h h0⟩
theorem zT{P:Prop}(h:P):Hid P:=h
theorem qJ{P:Program}{w:World}{jA:Array Oper}{eA:List Oper}{o:Oper}{a:Act}{Q:Exit->Act->World->Prop}(kA:o.guard=none)(s x:Operand)(t:TypeId)
  (ho:o.op = .call {callee:=.builtin .append,args:=#[s,x],argTypes:=#[t,t]})
  (base:Nat) (e:TypeId) (i:TypeInfo) (z:Value) (size bytes:Nat) (ht:P.underlying t=some (.slice e)) (hi:P.info? e=some i) (hz:i.zero=some z)
  (fA:i.size=size) (pA:i.bytes=bytes) (mA:z.cells.size=size) (lA:0<size)
  (v:Value) (n:Nat) (xs:List Value) (hs:a.eval s=v) (cA:w.ownsRow base e size v n xs)
  (ao:Option Addr) (m c:Nat) (aA:List Value) (hx:a.eval x = .slice ao m c) (hl:aA.length=m*size) (h1:∀u∈aA,u.oneCell'=true)
  (bA:0<m->∃b off,ao=some ⟨b,off,none⟩/\∀j u,aA[j]?=some u->w.cell? ⟨b,off+j,none⟩=some u)
  (nA:n+m<=maxLen) (dA:(n+m)*bytes<=140737488355328) (gA:base<=w.heap.size)
  (h:∀v' w',w'.ownsRow base e size v' (n+m) (xs ++ aA)->w.grownBy w' v.ownBlock->(m=0->v'=v)->wpList P jA Q eA (a.put o.dst v') w'):wpList P jA Q (o :: eA) a w:=by
 by_cases iA:m=0
 ·have oA:aA = []:=List.eq_nil_of_length_eq_zero (by rw[hl,iA,Nat.zero_mul]);exact zFV kA s x t ho base e i size c m ao ht hi v n xs hs cA iA hx (h v w (by subst iA;subst oA;simpa using cA) ⟨rfl,rfl,rfl,Nat.le_refl _,fun _ _ _=>rfl⟩ (fun _=>rfl))
 cases ao with
 | none=>
  obtain⟨b,off,ha,_⟩:=bA (by omega);simp at ha
 | some ad=>
  refine wpList_append_own w kA s x t ho base e i z size bytes ht hi hz fA pA mA lA v n xs hs cA ad m c aA hx hl (fun j u hj=>?_) h1 nA dA gA (fun v' w' g1 g2 _=>h v' w' g1 g2 (fun e=>absurd e iA));have h0:0<m:=by
   have:=(List.getElem?_eq_some_iff.1 hj).1;rw[hl]at this;rcases Nat.eq_zero_or_pos m with hm | hm
   ·rw[hm,Nat.zero_mul]at this;omega
   ·exact hm
  obtain⟨b,off,ha,hc⟩:=bA h0;simp only[Option.some.injEq]at ha;subst ha;rw[add_lit];exact hc j u hj
theorem zKn{w:World}{lo hi:Nat}{f:Nat->Int}{n:Nat}{v:Value}(h:qV w lo hi v n f){a:Option Addr}{c:Nat}(hv:v = .slice a n c){w':World}(hb:Below w.heap.size w w') :
  0<n->∃b off,a=some ⟨b,off,none⟩/\∀j u,(ic f n)[j]?=some u->w'.cell? ⟨b,off+j,none⟩=some u:=by
 obtain⟨_,a0,c0,h0,_,g⟩:=h;subst hv;simp only[Value.slice.injEq,true_and]at h0;obtain⟨rfl,rfl⟩:=h0;intro hn;obtain⟨b,off,ha,_,_,hc⟩:=g hn;refine⟨b,off,ha,fun j u hj=>?_⟩;have:=zPe hc j u hj;rw[add_lit]at this;exact(hb.cell (zD this)).trans this
theorem zc.grown{w w1:World}{v:Value}{b base e size n:Nat}{xs:List Value}{x y:Value}(h:zc w b x y)(hg:w.grownBy w1 v.ownBlock)(aA:w.ownsRow base e size v n xs)(hb:b<base):zc w1 b x y:=
 h.zRf (zCL hg) (fun e=>by have:=aA.lt b e;omega)
theorem zQi(w:World)(x y z:Value)(t:TypeId):∀j u,[x,y,z][j]?=some u->(w.alloc (.cells #[x,y,z] t)).cell? ((⟨w.heap.size,0,none⟩:Addr).add j)=some u:=by
 intro j u hj
 match j,hj with
 | 0,hj=>simp at hj;subst hj;simp[Addr.add]
 | 1,hj=>simp at hj;subst hj;simp[Addr.add]
 | 2,hj=>simp at hj;subst hj;simp[Addr.add]
 | (j+3),hj=>simp at hj
theorem zRG(x:Int)(a:Option Addr)(n c:Nat)(s:ByteArray):∀u∈[Value.int .i64 x,.slice a n c,.string s],u.oneCell'=true:=by
 intro u hu;simp only[List.mem_cons,List.not_mem_nil,or_false]at hu;rcases hu with rfl | rfl | rfl<;>rfl
theorem zMm{wr W:World}{lo k nb m:Nat}{f:Nat->zL}{kb:Nat->Nat}{kv:Nat->Value}{v:Value}(h:zE4 wr lo k f kb kv v)(aA:lo<=wr.heap.size)(h2:0<m->wr.heap.size<=nb/\nb<W.heap.size) :
  0<m->lo<=nb/\nb<W.heap.size/\v.ownBlock≠some nb/\∀j,j<k->0<(f j).kn->kb j≠nb:=fun h0=>by
 obtain⟨h3,h4⟩:=h2 h0;exact⟨by omega,h4,fun e=>by have:=h.row.lt nb e;omega,fun j hj hk e=>by have:=h.zRm j hj hk;omega⟩
def zPs(p:zI)(w:World)(e:Ending)(w':World):Prop:=
 ∃v0 v1 M bs kb kv,e = .returned (.agg #[v0,v1])/\qU w' bs kb kv v0 p.n p.s/\yP kb p.n p.s/\(∀k,yi bs kb p.n p.s k->M<=k/\k<w'.heap.size)/\
  w'.ownsRow w.heap.size 2 1 v1 p.hn (ic p.h p.hn)/\(∀k,v1.ownBlock=some k->w.heap.size<=k/\k<M)/\w.heap.size<=M/\M<=w'.heap.size/\Below w.heap.size w w'/\(p.hn=0->∃a,v1 = .slice a 0 0)
theorem zFH{w:World}{base n:Nat}{v:Value}{f:Nat->Int}(hm:n<=maxLen)(h:w.ownsRow base 2 1 v n (ic f n))(hz:n=0->∃a,v = .slice a 0 0):∃hb,qf w hb v n f/\(0<n->v.ownBlock=some hb):=by
 by_cases h0:0<n
 ·obtain⟨gb,cA,rfl,bA,hb,dA,aA⟩:=qZ h h0;refine⟨gb,⟨hm,_,cA,rfl,bA,fun _=>⟨0,rfl,fun i hi=>?_⟩,fun _=>?_⟩,fun _=>rfl⟩
  ·have:=aA i _ (zLZ f n i hi);simpa using this
  ·exact zLc h h0
 ·obtain⟨a,cA,rfl,bA⟩:=zY h;exact⟨0,⟨hm,a,cA,rfl,bA,fun h=>absurd h h0,fun dA=>by obtain⟨a2,e2⟩:=hz (by omega);simp only[Value.slice.injEq]at e2;omega⟩,fun h=>absurd h h0⟩
theorem zJk{w':World}{p:zI}{v0 v1:Value}{B M bs base:Nat}{kb:Nat->Nat}{kv:Nat->Value}(h1:qU w' bs kb kv v0 p.n p.s)(h2:yP kb p.n p.s)(h3:∀k,yi bs kb p.n p.s k->M<=k/\k<w'.heap.size)(hm:p.hn<=maxLen)
  (h4:w'.ownsRow base 2 1 v1 p.hn (ic p.h p.hn)) (h5:∀k,v1.ownBlock=some k->B<=k/\(k<M\/w'.heap.size<=k\/(k<w'.heap.size/\¬yi bs kb p.n p.s k))) (h6:B<=M) (hz:p.hn=0->∃a,v1 = .slice a 0 0):zy w' B w'.heap.size v0 v1 p:=by
 obtain⟨hb,hi,aA⟩:=zFH hm h4 hz;refine⟨bs,hb,kb,kv,h1,h2,hi,fun h0 hx=>?_,fun k hk=>?_⟩
 ·have a:=h3 _ hx;have b:=h5 _ (aA h0);rcases b.2 with b2 | b2 | b2
  ·omega
  ·omega
  ·exact b2.2 hx
 ·rcases hk with hk | ⟨h0,rfl⟩
  ·have:=h3 _ hk;omega
  ·have b:=h5 _ (aA h0);have c:=h4.lt _ (aA h0);exact⟨b.1,c.2⟩
theorem zEJ{w:World}{B B' e size n:Nat}{v:Value}{xs:List Value}(h:w.ownsRow B' e size v n xs)(hB:B<=B'):w.ownsRow B e size v n xs:=
 ⟨h.1,h.2.imp id (fun ⟨g,cap,cur,a,b,c⟩=>⟨g,cap,cur,a,Nat.le_trans hB b,c⟩)⟩
def pcl:List (Int×Int)->List Value
 | []=>[]
 | x :: l=>.int .i64 x.1 :: .int .i64 x.2 :: pcl l
theorem zA6:∀l,(pcl l).length=l.length*2
 | []=>rfl
 | x :: l=>by simp[pcl,zA6 l];omega
theorem zA9:∀l m,pcl (l ++ m)=pcl l ++ pcl m
 | [],m=>rfl
 | x :: l,m=>by simp[pcl,zA9 l m]
theorem zF0:∀l,∀u∈pcl l,u.oneCell'=true
 | [],u,hu=>by simp[pcl]at hu
 | x :: l,u,hu=>by
  simp only[pcl,List.mem_cons]at hu;rcases hu with rfl | rfl | hu
  ·rfl
  ·rfl
  ·exact zF0 l u hu
theorem zBY:∀(l:List (Int×Int)) i,i<l.length->(pcl l)[i*2]?=some (.int .i64 (l.getD i (0,0)).1)/\(pcl l)[i*2+1]?=some (.int .i64 (l.getD i (0,0)).2):=by
 intro l
 induction l with
 | nil=>intro i hi;simp at hi
 | cons x l ih=>
  intro i hi;cases i with
  | zero=>exact⟨rfl,rfl⟩
  | succ i=>
   have:=ih i (by simpa using hi);rw[show(i+1)*2=i*2+1+1 by omega];simpa[pcl]using this
def zf(l:List (Int×Int))(i:Nat):Int:=(l.getD i (0,0)).1
def zh(l:List (Int×Int))(i:Nat):Int:=(l.getD i (0,0)).2
theorem zA3:(Tryz.prog.info? 61).map (fun i=>(i.zero,i.size,i.bytes))=some (some (.agg #[.int .i64 0,.int .i64 0]),2,16):=by kernel_rfl
theorem yt{w w1:World}(h:Below w.heap.size w w1)(row:Option Nat):w.grownBy w1 row:=⟨h.os,h.tape,h.output,h.size,fun k hk _=>h.block k hk⟩
def zw(w:World)(base:Nat)(v:Value)(l:List (Int×Int)):Prop:=w.ownsRow base 61 2 v l.length (pcl l)
theorem zw.zRX{w w1:World}{base:Nat}{v:Value}{l:List (Int×Int)}(h:zw w base v l)(hb:Below w.heap.size w w1):zw w1 base v l:=
 h.kept (yt hb none) (by cases v.ownBlock<;>simp)
theorem zw.zRf{w w1:World}{base:Nat}{v:Value}{l:List (Int×Int)}{row:Option Nat}(h:zw w base v l)(hg:w.grownBy w1 row)(aA:∀q,v.ownBlock=some q->row≠some q):zw w1 base v l:=
 h.kept hg (by
  cases hv:v.ownBlock with
  | none=>simp
  | some q=>exact Or.inr (fun e=>aA q hv e.symm))
theorem zw.nil(w:World)(base:Nat):zw w base (.slice none 0 0) []:=World.ownsRow_nil _ _ _ _
theorem zw.mono{w:World}{base aA:Nat}{v:Value}{l:List (Int×Int)}(h:zw w base v l)(hb:aA<=base):zw w aA v l:=by
 refine⟨h.1,h.2.imp id ?_⟩;rintro⟨g,bA,cA,e,h1,h2⟩;exact⟨g,bA,cA,e,Nat.le_trans hb h1,h2⟩
theorem zw.put{w:World}{base b o:Nat}{v:Value}{l:List (Int×Int)}(h:zw w base v l)(hb:b<base)(u:Value):zw (w.setCell ⟨b,o,none⟩ u) base v l:=by
 refine⟨h.1,h.2.imp id ?_⟩;rintro⟨g,aA,bA,e,h1,h2,h3⟩;exact⟨g,aA,bA,e,h1,(Below.heap_setCell _ _ _ _ (fun e=>by have:g=b:=e;omega)).trans h2,h3⟩
theorem zw.lt{w:World}{base:Nat}{v:Value}{l:List (Int×Int)}(h:zw w base v l){q:Nat}(hq:v.ownBlock=some q):base<=q/\q<w.heap.size:=by
 rcases h.2 with⟨rfl,_⟩ | ⟨g,aA,bA,rfl,hb,hg,_⟩
 ·simp[Value.ownBlock]at hq
 ·simp only[Value.ownBlock,Option.some.injEq]at hq;subst hq;exact⟨hb,(Array.getElem?_eq_some_iff.1 hg).1⟩
theorem zw.own{w:World}{base:Nat}{v:Value}{l:List (Int×Int)}(h:zw w base v l)(hm:l.length<=maxLen):∃b,zm w b v l.length (zf l) (zh l)/\(0<l.length->v.ownBlock=some b/\base<=b/\b<w.heap.size):=by
 by_cases h0:0<l.length
 ·obtain⟨g,cA,rfl,bA,hb,dA,aA⟩:=qZ h h0;refine⟨g,⟨hm,_,cA,rfl,bA,fun _=>⟨0,rfl,fun i hi=>?_⟩⟩,fun _=>⟨rfl,hb,dA⟩⟩;rw[Nat.zero_add];exact⟨aA _ _ (zBY l i hi).1,aA _ _ (zBY l i hi).2⟩
 ·obtain⟨a,cA,rfl,bA⟩:=zY h;exact⟨0,⟨hm,a,cA,rfl,bA,fun h=>absurd h h0⟩,fun h=>absurd h h0⟩
def zQv(l:List (Int×Int))(w:World)(e:Ending)(w':World):Prop:=∃v,e = .returned v/\w'.ownsRow w.heap.size 61 2 v l.length (pcl l)/\Below w.heap.size w w'
def zBK(F:Int->Int->List (Int×Int))(s:zL):Nat->List (Int×Int)
 | 0=>[]
 | k+1=>zBK F s k ++ F (zb s k) (zt s k)
theorem zJj(s:zL):∀k,zBK one s k=kidsUp (zb s) (zt s) k
 | 0=>rfl
 | k+1=>by rw[zBK,kidsUp,zJj s k]
theorem zJi(p:zI)(s:zL):∀k,zBK (zE7 p) s k=zAy p s k
 | 0=>rfl
 | k+1=>by rw[zBK,zAy,zJi p s k]
theorem zJV{F:Int->Int->List (Int×Int)}(hF:∀a b,(F a b).length<=9)(s:zL):∀k,(zBK F s k).length<=9*k
 | 0=>Nat.le_refl _
 | k+1=>by
  have:=zJV hF s k;have:=hF (zb s k) (zt s k);rw[zBK,List.length_append];omega
def zHH(p:zI)(F:Int->Int->List (Int×Int))(xs xb:Int):List (Int×Int):=if Nil xs xb then [] else(xs,xb) :: zBK F (p.s xs.toNat) 8
def zGJ(p:zI)(L:Int)(F:Int->Int->List (Int×Int)):Prop:=∀(v:Value) (lo hi:Nat) (xs xb:Int) (w:World),qA w lo hi v p.n p.s->(Nil xs xb\/zr p xs xb)->
 Calls Tryz.prog 197 #[v,.agg #[.int .i64 xs,.int .i64 xb],.int .i64 L] w (zQv (F xs xb) w)
theorem zMQ{w:World}{base n K:Nat}{v:Value}{xs:List Value}{cs:Array Value}(h:w.ownsRow base 61 2 v n xs)(hK:w.heap[K]?=some (.cells cs 155 (0,0))):v.ownBlock≠some K:=by
 intro e;rcases h.2 with⟨rfl,_⟩ | ⟨g,aA,bA,rfl,_,hg,_⟩
 ·simp[Value.ownBlock]at e
 ·simp only[Value.ownBlock,Option.some.injEq]at e;subst e;rw[hK]at hg;simp only[Option.some.injEq,Obj.cells.injEq]at hg;exact absurd hg.2.1 (by decide)
theorem zAu{xs xb:Int}(h:¬Nil xs xb):(xs == 0)=false\/(xs == 0)=true/\(xb == 0)=false:=by
 by_cases h0:xs=0
 ·right;refine⟨by simp[h0],?_⟩;have:xb≠0:=fun h'=>h ⟨h0,h'⟩
  simp[this]
 ·left;simp[h0]
theorem zOL(p:zI):zGJ p 2 one:=by
 intro v lo hi xs xb w hs hP;obtain⟨_,a,c,rfl,_⟩:=id hs;have ha:=zC w (.cells #[.int .i64 xs,.int .i64 xb] 61);obtain⟨⟨x0,x1⟩,⟨x2,x3⟩⟩:=zc.zRZ w (.int .i64 xs) (.int .i64 xb) 61;have aA:=World.ownsRow_lit (e:=61) (size:=2) (base:=w.heap.size) (w.alloc (.cells #[.int .i64 xs,.int .i64 xb] 61)) #[.int .i64 xs,.int .i64 xb] 1 (by simp) (by unfold maxLen;omega) rfl;rw[World.size_alloc]at aA;have bA:=zE aA;have HB:=zE (zA ha (zC _ (.cells #[.int .i64 xs,.int .i64 xb] 61)));clear aA;by_cases hn:Nil xs xb
 ·have HN:=zE hn;obtain⟨rfl,rfl⟩:=hn;go_enter Tryz.func197,Tryz.ntmps197;go_wp2;go_ret;exact⟨_,rfl,by rw[show one 0 0 = [] from if_pos HN.out];exact World.ownsRow_nil _ _ _ _,ha⟩
 ·have HN:=zE hn;have e0:=zAu hn;clear hn;rcases e0 with e0 | ⟨e0,e1⟩
  all_goals
   go_enter Tryz.func197,Tryz.ntmps197;go_wp2;go_ret;exact⟨_,rfl,by rw[show one xs xb = [(xs,xb)] from if_neg HN.out];exact bA.out,HB.out⟩
theorem zJo(p:zI)(L:Int)(F:Int->Int->List (Int×Int))(hR:zx p)(hL:0<=L/\L<2)(hF:∀a b,(F a b).length<=9)(lA:zGJ p (L+1) F):zGJ p L (zHH p F):=by
 intro v lo hi xs xb w hs hP;have Hs:=zE hs;obtain⟨_,a,c,rfl,_⟩:=id hs;have ha:=zC w (.cells #[.int .i64 xs,.int .i64 xb] 61);obtain⟨⟨x0,x1⟩,⟨x2,x3⟩⟩:=zc.zRZ w (.int .i64 xs) (.int .i64 xb) 61;have gC:(L == 2)=false:=by simp;omega
 clear hs;by_cases hn:Nil xs xb
 ·have HN:=zE hn;obtain⟨rfl,rfl⟩:=hn;go_enter Tryz.func197,Tryz.ntmps197;go_wp2;go_ret;exact⟨_,rfl,by rw[show zHH p F 0 0 = [] from if_pos HN.out];exact World.ownsRow_nil _ _ _ _,ha⟩
 ·have HN:=zE hn;have e0:=zAu hn;have vA:zr p xs xb:=hP.resolve_left hn;have Hf:=zE (qS hR vA);have cB:=zE lA;have HF:=zE hF;obtain⟨k,rfl⟩:=Int.eq_ofNat_of_zero_le vA.2.1;rw[Int.toNat_natCast]at Hf;have hk:k<p.n:=(by have:=vA.2.2.1;omega);have fC:(k:Int)<(p.n:Int):=(by omega);clear hn hP vA lA hR hF;have fA:=World.ownsRow_lit (e:=61) (size:=2) (base:=w.heap.size+1) (w.alloc (.cells #[.int .i64 (k:Int),.int .i64 xb] 61)) #[.int .i64 (k:Int),.int .i64 xb] 1 (by simp) (by unfold maxLen;omega) rfl;rw[World.size_alloc]at fA;have mA:=zE fA;have dB:=zC (w.alloc (.cells #[.int .i64 (k:Int),.int .i64 xb] 61)) (.cells #[.int .i64 (k:Int),.int .i64 xb] 61);have eB:=zA ha dB;have tB:=(zc.zRZ w (.int .i64 (k:Int)) (.int .i64 xb) 61).zRX dB;clear x0 x1 x2 x3 fA ha dB;obtain⟨⟨x0,x1⟩,⟨x2,x3⟩⟩:=tB;obtain⟨b,off,ka,kc,rfl,kB⟩:=(Hs.out.zRX eB).cells hk;have HC:=zE kB;obtain⟨q0,q1,q2,_⟩:=kB;obtain⟨y0,y1⟩:=(zc.zRZ w (.int .i64 (k:Int)) (.int .i64 xb) 61).1;obtain⟨y2,y3⟩:=(zc.zRZ w (.int .i64 (k:Int)) (.int .i64 xb) 61).2;rcases e0 with e0 | ⟨e0,e1⟩
  all_goals
   go_enter Tryz.func197,Tryz.ntmps197;go_wp2_with fail;refine(zDp _ _ _ lo hi (p.s k) _ HC.out.slot (zEy Hf.out)).mono ?_;rintro e w1 ⟨rfl,tA⟩;have iB:=zA eB tA;have eA:=mA.out.kept (zBf tA none) (Or.inr (by simp[Value.ownBlock]));have bB:Hid ((Tryz.prog.info? 155).map (·.size)=some (qF (p.s k)).size):=by
    show _=_;rw[qF,qB];exact zBy
   have oA:(w1.alloc (.cells (qF (p.s k)) 155)).heap[w1.heap.size]?=some (.cells (qF (p.s k)) 155 (0,0)):=heap_alloc_last _ _;have HK:=zE oA;have aB:=zE (eA.alloc (.cells (qF (p.s k)) 155));have pB:=zA iB (zC w1 (.cells (qF (p.s k)) 155));have jC:w.heap.size+2<=w1.heap.size:=(by have:=tA.size;rw[World.size_alloc,World.size_alloc]at this;omega);obtain⟨i0,mB,gB⟩:=Option.map_eq_some_iff.1 zCj;simp only[Prod.mk.injEq]at gB;have HT:=zE (And.intro mB gB);clear tA iB eA oA eB x0 x1 x2 x3 y0 y1 y2 y3 q0 q1 q2 HC mA mB gB;go_wp2_with (first
    | (refine wpList_store_row rfl 155 (.tmp 8) (.tmp 23) rfl w1.heap.size (qF (p.s k)) rfl rfl 155 #[Value.int .i64 0,Value.int .i64 0,Value.int .i64 0,Value.int .i64 0,Value.int .i64 0,Value.int .i64 0,Value.int .i64 0,Value.int .i64 0,Value.int .i64 0,Value.int .i64 0,Value.int .i64 0,Value.int .i64 0,Value.int .i64 0,Value.int .i64 0,Value.int .i64 0,Value.int .i64 0] (heap_alloc_last _ _) bB.out (by rw[qF,qB];rfl) (zAq _) ?_;rw[World.setRow_alloc_new]))
   go_loopw [7,24] (fun o i wr=>∃(j:Nat) (oa:Option Addr) (oc:Nat),j<=8/\i = .int .i64 j/\o = .slice oa (((k:Int),xb) :: zBK F (p.s k) j).length oc/\wr.ownsRow (w.heap.size+1) 61 2 o (((k:Int),xb) :: zBK F (p.s k) j).length (pcl (((k:Int),xb) :: zBK F (p.s k) j))/\wr.heap[w1.heap.size]?=some (.cells (qF (p.s k)) 155 (0,0))/\Below w.heap.size w wr) (fun _ i _=>8 - (intOf i).toNat)
   case atStart=>exact⟨0,_,_,Nat.zero_le _,rfl,rfl,aB.out,HK.out,pB⟩
   case round=>
    obtain⟨j,oa,oc,hj,rfl,rfl,pA,hK,hb⟩:=hrel;have gA:=zE pA;have sA:=zE hK;have fB:w1.heap.size<wr.heap.size:=(Array.getElem?_eq_some_iff.1 hK).1;have bC:=zJV HF.out (p.s k) j;clear pA hK;by_cases dC:j<8
    ·have aC:(j:Int)<8:=(by omega);obtain⟨y0,y1⟩:=zJ (i:=j*2) sA.out (yO (zj (p.s k)) (by omega));obtain⟨y2,y3⟩:=zJ (i:=j*2+1) sA.out (yO (zj (p.s k)) (by omega));have oB:Hid (Nil (zj (p.s k) (j*2)) (zj (p.s k) (j*2+1))\/zr p (zj (p.s k) (j*2)) (zj (p.s k) (j*2+1))):=by
      by_cases hn:Nil (zb (p.s k) j) (zt (p.s k) j)
      ·exact Or.inl hn
      ·exact Or.inr (zAl Hf.out dC hn).1
     go_wp2_with fail;refine(cB.out _ lo hi (zj (p.s k) (j*2)) (zj (p.s k) (j*2+1)) _ (Hs.out.zRX hb) oB.out).mono ?_;rintro e w2 ⟨v2,rfl,dA,kA⟩;obtain⟨na,nc,rfl,_⟩:=zY dA;have eC:=HF.out (zj (p.s k) (j*2)) (zj (p.s k) (j*2+1));have jA:=zE dA;have cA:=zE (gA.out.kept (zBf kA none) (by cases hv:(Value.slice oa (((k:Int),xb) :: zBK F (p.s k) j).length oc).ownBlock<;>simp));have lB:=zE ((kA.block _ fB).trans sA.out);have nB:=zA hb kA;have iC:=kA.size;clear dA kA y0 y1 y2 y3 gA sA;go_wp2_with (first
      | (at_builtin;refine qJ rfl _ _ 62 rfl (w.heap.size+1) 61 i0 (.agg #[.int .i64 0,.int .i64 0]) 2 16 (by kernel_rfl) HT.out.1 HT.out.2.1 HT.out.2.2.1 HT.out.2.2.2 rfl (by decide) (.slice oa (((k:Int),xb) :: zBK F (p.s k) j).length oc) (((k:Int),xb) :: zBK F (p.s k) j).length (pcl (((k:Int),xb) :: zBK F (p.s k) j)) rfl ?c0 na (F (zj (p.s k) (j*2)) (zj (p.s k) (j*2+1))).length nc (pcl (F (zj (p.s k) (j*2)) (zj (p.s k) (j*2+1)))) rfl (zA6 _) (zF0 _) ?c1 ?c3 ?c4 ?c5 ?_))
     case c0=>exact cA.out
     case c1=>
      intro h0;obtain⟨g,kC,e,_,_,_,rA⟩:=qZ jA.out h0;simp only[Value.slice.injEq,true_and]at e;exact⟨g,0,e.1,fun j u hj=>by rw[Nat.zero_add];exact(rA j u hj).1⟩
     case c3=>rw[List.length_cons];unfold maxLen;omega
     case c4=>rw[List.length_cons];omega
     case c5=>omega
     intro v3 w3 bA aA _;have iA:((k:Int),xb) :: zBK F (p.s k) (j+1)=(((k:Int),xb) :: zBK F (p.s k) j) ++ F (zj (p.s k) (j*2)) (zj (p.s k) (j*2+1)):=rfl;have jB:(zBK F (p.s k) j).length+1+(F (zj (p.s k) (j*2)) (zj (p.s k) (j*2+1))).length=(((k:Int),xb) :: zBK F (p.s k) (j+1)).length:=(by rw[iA,List.length_append,List.length_cons]);rw[<-zA9,<-iA,jB]at bA;have cC:=zE ((aA.block _ (by omega) (fun e=>zMQ cA.out lB.out e.symm)).trans lB.out);have vB:=nB.grown aA nB.size (fun q hq=>by have:=cA.out.lt q hq;omega);obtain⟨sB,rB,rfl,_⟩:=zY bA;have nA:=zE bA;clear bA aA iA jB;go_wp2;go_roundw
     case rel=>exact⟨j+1,sB,rB,by omega,by go_num,rfl,nA.out,cC.out,vB⟩
     case measure=>simp[intOf];omega
    ·obtain rfl:j=8:=(by omega);go_wp2;go_ret;refine⟨_,rfl,?_,hb⟩;rw[show zHH p F (k:Int) xb=((k:Int),xb) :: zBK F (p.s k) 8 by unfold zHH;rw[if_neg HN.out,Int.toNat_natCast]];exact zEJ gA.out (by omega)
theorem zOJ(p:zI)(hR:zx p):zGJ p 1 (zE7 p):=by
 have h:=zJo p 1 one hR (by omega) (fun a b=>by unfold one;split<;>simp) (zOL p);have e:zHH p one=zE7 p:=by
  funext xs xb;unfold zHH zE7 zM4;rw[zJj]
 rw[e]at h;exact h
theorem zJf(p:zI)(hR:zx p):zGJ p 0 (zR p):=by
 have h:=zJo p 0 (zE7 p) hR (by omega) (zL5 p) (zOJ p hR);have e:zHH p (zE7 p)=zR p:=by
  funext xs xb;unfold zHH zR;rw[zJi]
 rw[e]at h;exact h
def zN5(n:Nat)(f g:Nat->Int)(x y:Int):Prop:=∃j,j<n/\f j=x/\g j=y
theorem zU.cellsT{w:World}{lo hi:Nat}{a:Option Addr}{n c:Nat}{f g:Nat->Int}(h:zU w lo hi (.slice a n c) n f g){k:Nat}(hk:k<n):∃b off,a=some ⟨b,off,none⟩/\w.cell? ⟨b,off+k*2,none⟩=some (.int .i64 (f k))/\w.cell? ⟨b,off+k*2+1,none⟩=some (.int .i64 (g k)):=by
 obtain⟨_,a2,c2,hv,_,hx⟩:=h;simp only[Value.slice.injEq,true_and]at hv;obtain⟨rfl,rfl⟩:=hv;obtain⟨b,off,ha,_,_,h3⟩:=hx (by omega);exact⟨b,off,ha,(h3 k hk).1,(h3 k hk).2⟩
theorem zU.take{w:World}{lo hi:Nat}{a:Option Addr}{n c m c':Nat}{f g:Nat->Int}(h:zU w lo hi (.slice a n c) n f g)(hm:m<=n)(hc:m<=c'):zU w lo hi (.slice a m c') m f g:=by
 obtain⟨h0,a2,c2,hv,_,hx⟩:=h;simp only[Value.slice.injEq,true_and]at hv;obtain⟨rfl,rfl⟩:=hv;refine⟨by omega,_,c',rfl,hc,fun h1=>?_⟩;obtain⟨b,off,ha,hl,hh,h3⟩:=hx (by omega);exact⟨b,off,ha,hl,hh,fun i hi=>h3 i (by omega)⟩
theorem zKN(v:Value)(n lo hi:Nat)(f g:Nat->Int)(x y:Int)(w:World)(h1:zU w lo hi v n f g) :
  Calls Tryz.prog 228 #[v,.agg #[.int .i64 x,.int .i64 y]] w fun e w'=>(∃r:Int,e = .returned (.int .i64 r)/\(0<=r↔zN5 n f g x y))/\Below w.heap.size w w':=by
 have Hp:=zE h1;obtain⟨m1,a,c,rfl,mc,_⟩:=id h1;unfold maxLen at m1;clear h1;have ha:=zC w (.cells #[.int .i64 x,.int .i64 y] 61);have HB:=zE (zc.zRZ w (.int .i64 x) (.int .i64 y) 61);go_enter Tryz.func228,Tryz.ntmps228;go_wp2
 go_loopw [8] (fun i wr=>∃k:Nat,k<=n/\i = .int .i64 k/\¬zN5 k f g x y/\zc wr w.heap.size (.int .i64 x) (.int .i64 y)/\Below w.heap.size w wr) (fun i _=>n - (intOf i).toNat)
 case atStart=>exact⟨0,Nat.zero_le _,rfl,fun ⟨j,hj,_⟩=>absurd hj (Nat.not_lt_zero _),HB.out,ha⟩
 case round=>
  obtain⟨k,hk,rfl,bA,hX,hb⟩:=hrel;have dA:=zE bA;have HX:=zE hX;clear bA hX;obtain⟨⟨x0,x1⟩,⟨x2,x3⟩⟩:=HX.out;by_cases cA:k<n
  ·have eA:(k:Int)<(n:Int):=(by omega);obtain⟨b,off,rfl,q0,q1⟩:=(Hp.out.zRX hb).cellsT cA;by_cases he:x=f k/\y=g k
   ·have H:=zE (show zN5 n f g x y from⟨k,cA,he.1.symm,he.2.symm⟩);rw[<-he.1]at q0;rw[<-he.2]at q1;clear he;go_wp2
    go_quiet (fail)
    go_wp2;go_ret;exact⟨⟨_,rfl,⟨fun _=>H.out,fun _=>Int.natCast_nonneg _⟩⟩,zg hb _⟩
   ·have H:=zE he;have e0:(x == f k)=false\/(x == f k)=true/\(y == g k)=false:=by
     by_cases h:x=f k
     ·right;refine⟨by simp[h],?_⟩;have:y≠g k:=fun h'=>he ⟨h,h'⟩
      simp[this]
     ·left;simp[h]
    clear he;rcases e0 with e0 | ⟨e0,e1⟩
    all_goals
     go_wp2
     go_quiet (fail)
     go_wp2;go_roundw
     case rel=>
      refine⟨k+1,by omega,by go_num,?_,HX.out.zRX (zg (Below.refl _ _) _),zg hb _⟩;rintro⟨j,hj,aA⟩;by_cases e:j=k
      ·subst e;exact H.out ⟨aA.1.symm,aA.2.symm⟩
      ·exact dA.out ⟨j,by omega,aA⟩
     case measure=>simp[intOf];omega
  ·obtain rfl:k=n:=(by omega);go_wp2;go_ret;exact⟨⟨-1,rfl,⟨fun h=>absurd h (by omega),fun h=>absurd h dA.out⟩⟩,hb⟩
theorem zD7(v:Value)(n lo hi:Nat)(f g:Nat->Int)(x y:Int)(w:World)(h1:zU w lo hi v n f g) :
  Calls Tryz.prog 220 #[v,.agg #[.int .i64 x,.int .i64 y]] w fun e w'=>zG (zN5 n f g x y) e/\Below w.heap.size w w':=by
 have Hi:=zE h1;obtain⟨m1,a,c,rfl,mc,_⟩:=id h1;clear h1;have ha:=zC w (.cells #[.int .i64 x,.int .i64 y] 61);go_enter Tryz.func220,Tryz.ntmps220;go_wp2_with fail;refine(zKN _ n lo hi f g x y _ (Hi.out.zRX ha)).mono ?_;rintro e w' ⟨⟨r,rfl,hr⟩,hb⟩;have Hr:=zE hr;have hB:=zA ha hb;clear hr hb;go_wp2;go_ret;exact⟨⟨_,rfl,by simpa using Hr.out⟩,hB⟩
def zMW(p:zI)(n:Nat)(f g:Nat->Int):Prop:=∀i,i<n->¬zN5 i f g (f i) (g i)/\¬Has p.hn p.h (f i)
theorem zOS(v0 v1 v:Value)(lo hi lo' hi' n:Nat)(p:zI)(f g:Nat->Int)(w:World)(h1:zu w lo hi v0 v1 p)(h2:zU w lo' hi' v n f g) :
    Calls Tryz.prog 196 #[.agg #[v0,v1],v] w fun e w'=>zG (zMW p n f g) e/\Below w.heap.size w w':=by
  have Hp:=zE h1;have Hl:=zE h2;obtain⟨a,c,a',c',rfl,rfl⟩:∃a c a' c',v0 = .slice a p.n c/\v1 = .slice a' p.hn c':=by
    obtain⟨⟨_,a,c,h1,_⟩,⟨_,a',c',h3,_⟩⟩:=h1;exact⟨a,c,a',c',h1,h3⟩
  obtain⟨m1,la,lc,rfl,mc,_⟩:=id h2;unfold maxLen at m1;clear h1 h2;have ha:=zC w (.cells #[.slice a p.n c,.slice a' p.hn c'] 33);have HB:=zE (zc.zRZ w (.slice a p.n c) (.slice a' p.hn c') 33);go_enter Tryz.func196,Tryz.ntmps196;go_wp2
  go_loopw [9] (fun i wr=>∃k:Nat,k<=n/\i = .int .i64 k/\zMW p k f g/\zc wr w.heap.size (.slice a p.n c) (.slice a' p.hn c')/\Below w.heap.size w wr) (fun i _=>n - (intOf i).toNat)
  case atStart=>exact⟨0,Nat.zero_le _,rfl,fun j hj=>absurd hj (Nat.not_lt_zero _),HB.out,ha⟩
  case round=>
    obtain⟨k,hk,rfl,fA,hX,hb⟩:=hrel;have gA:=zE fA;have HX:=zE hX;clear fA hX;by_cases iA:k<n
    · have pA:(k:Int)<(n:Int):=by omega
      have tA:(k:Int)<=(lc:Int):=(by omega);obtain⟨b,off,rfl,q0,q1⟩:=(Hl.out.zRX hb).cellsT iA;have lA:=zC wr (.cells #[.int .i64 (f k),.int .i64 (g k)] 61);have cA:=zE (HX.out.zRX lA);have HV:=zE (zc.zRZ wr (.int .i64 (f k)) (.int .i64 (g k)) 61);have dA:=zA hb lA;have sA:w.heap.size<wr.heap.size:=HX.out.1.lt;have rA:(wr.alloc (.cells #[.int .i64 (f k),.int .i64 (g k)] 61)).heap.size=wr.heap.size+1:=World.size_alloc _ _;go_upto_region 4 with fail;generalize wr.alloc (.cells #[.int .i64 (f k),.int .i64 (g k)] 61)=wx at cA HV dA rA ⊢;clear q0 q1 lA HX;have kA:=zE ((Hl.out.zRX dA).take (m:=k) (c':=lc) (by omega) (by omega));obtain⟨⟨x0,x1⟩,⟨x2,x3⟩⟩:=cA.out;obtain⟨⟨y0,y1⟩,⟨y2,y3⟩⟩:=HV.out;by_cases hh:zN5 k f g (f k) (g k)
      · have HH:=zE hh
        clear hh
        first
          | (go_region_with (first
              | (go_at_call 220
                 refine(zD7 _ k lo' hi' f g (f k) (g k) _ ?_).mono ?_
                 (first | exact kA.out | exact kA.out.zRX (Below.refl _ _).drew)
                 rintro e w2 ⟨⟨t2,rfl,eA⟩,bA⟩;obtain rfl:t2=true:=eA.2 HH.out;clear eA;have aA:Below wx.heap.size wx w2:=(by first | exact bA | exact zK bA);obtain⟨⟨k0,_⟩,⟨k1,_⟩⟩:=cA.out.zRX aA;obtain⟨⟨k2,_⟩,⟨k3,_⟩⟩:=HV.out.zRX aA)))
          | fail
        all_goals
          have jA:=zA dA aA;go_wp2;go_ret;exact⟨zG.no fun h=>(h k iA).1 HH.out,jA⟩
      · have HH:=zE hh
        clear hh;go_region_held3 (fun w'=>w'.cell? ⟨w.heap.size,0,none⟩=some (.slice a p.n c)/\w'.cell? ⟨w.heap.size,1,none⟩=some (.slice a' p.hn c')/\w'.cell? ⟨wr.heap.size,0,none⟩=some (.int .i64 (f k))/\w'.cell? ⟨wr.heap.size,1,none⟩=some (.int .i64 (g k))) (go_keep)
          (first
            | (go_at_call 220
               refine(zD7 _ k lo' hi' f g (f k) (g k) _ ?_).mono ?_
               (first | exact kA.out | exact kA.out.zRX (Below.refl _ _).drew)
               rintro e w2 ⟨⟨t2,rfl,eA⟩,bA⟩;obtain rfl:t2=false:=zQ eA HH.out;clear eA;have aA:Below wx.heap.size wx w2:=(by first | exact bA | exact zK bA);obtain⟨⟨k0,_⟩,⟨k1,_⟩⟩:=cA.out.zRX aA;obtain⟨⟨k2,_⟩,⟨k3,_⟩⟩:=HV.out.zRX aA)
            | (go_at_call 192
               refine(zCW _ p.hn lo hi p.h (f k) _ ?_).mono ?_;exact(Hp.out.2.zRX (zA dA aA));rintro e w3 ⟨⟨t3,rfl,nA⟩,rfl⟩))
        have jA:=zA dA aA;have oA:=zE (cA.out.zRX aA);have mA:=zE nA;clear nA aA bA x0 x1 x2 x3 y0 y1 y2 y3 k0 k1 k2 k3;cases t3
        · go_wp2
          go_roundw
          case rel=>exact⟨k+1,by omega,by go_num,zo (n:=n) iA gA.out ⟨HH.out,fun h=>absurd (mA.out.2 h) (by simp)⟩,oA.out,jA⟩
          case measure=>simp[intOf];omega
        · go_wp2
          go_ret;exact⟨zG.no fun h=>(h k iA).2 (mA.out.1 trivial),jA⟩
    · obtain rfl:k=n:=by omega
      go_wp2;go_ret;exact⟨zG.yes gA.out,hb⟩
theorem zPM{w:World}{base:Nat}{v:Value}{l:List (Int×Int)}(hm:l.length<=maxLen)(h:w.ownsRow base 61 2 v l.length (pcl l)):zU w 0 w.heap.size v l.length (fun i=>(l.getD i (0,0)).1) (fun i=>(l.getD i (0,0)).2):=by
  by_cases h0:0<l.length
  · obtain⟨g,cA,rfl,bA,hb,dA,aA⟩:=qZ h h0
    refine⟨hm,_,cA,rfl,bA,fun _=>⟨g,0,rfl,Nat.zero_le _,dA,fun i hi=>?_⟩⟩;have get:∀(l:List (Int×Int)) i,i<l.length->(pcl l)[i*2]?=some (.int .i64 (l.getD i (0,0)).1)/\(pcl l)[i*2+1]?=some (.int .i64 (l.getD i (0,0)).2):=by
      intro l
      induction l with
      | nil=>intro i hi;simp at hi
      | cons x l ih=>
        intro i hi;cases i with
        | zero=>exact⟨rfl,rfl⟩
        | succ i=>
          have:=ih i (by simpa using hi);rw[show(i+1)*2=i*2+1+1 by omega];simpa[pcl]using this
    rw[Nat.zero_add];exact⟨(aA _ _ (get l i hi).1).1,(aA _ _ (get l i hi).2).1⟩
  · obtain⟨a,cA,rfl,bA⟩:=zY h
    exact⟨hm,a,cA,rfl,bA,fun h=>absurd h h0⟩
theorem zMv(p:zI)(l:List (Int×Int)):zMW p l.length (fun i=>(l.getD i (0,0)).1) (fun i=>(l.getD i (0,0)).2)↔zPy p l:=by
  have aA:∀i (h:i<l.length),l.getD i (0,0)=l[i]:=fun i h=>by rw[List.getD_eq_getElem?_getD,List.getElem?_eq_getElem h,Option.getD_some]
  constructor
  · intro h
    refine⟨?_,fun x hx=>?_⟩
    · rw[List.Nodup,List.pairwise_iff_getElem]
      intro i j hi hj bA e;refine(h j hj).1 ⟨i,bA,?_,?_⟩
      · show(l.getD i (0,0)).1=(l.getD j (0,0)).1
        rw[aA i hi,aA j hj,e]
      · show(l.getD i (0,0)).2=(l.getD j (0,0)).2
        rw[aA i hi,aA j hj,e]
    · obtain⟨i,hi,rfl⟩:=List.getElem_of_mem hx
      have:=(h i hi).2;simp only[aA i hi]at this;exact this
  · rintro⟨h1,h2⟩ i hi
    refine⟨?_,?_⟩
    · rintro⟨j,hj,e1,e2⟩
      simp only[aA i hi,aA j (by omega)]at e1 e2;rw[List.Nodup,List.pairwise_iff_getElem]at h1;exact h1 j i (by omega) hi hj (Prod.ext e1 e2)
    · simp only[aA i hi]
      exact h2 _ (List.getElem_mem hi)
theorem zFE(v0 v1:Value)(lo hi:Nat)(p:zI)(xs xb:Int)(w:World)(h1:zu w lo hi v0 v1 p)(hR:zx p) :
    Calls Tryz.prog 155 #[.agg #[v0,v1],.agg #[.int .i64 xs,.int .i64 xb]] w fun e w'=>zG (zKk p xs xb) e/\Below w.heap.size w w':=by
  have Hp:=zE h1;have HR:=zE hR;obtain⟨a,c,a',c',rfl,rfl⟩:∃a c a' c',v0 = .slice a p.n c/\v1 = .slice a' p.hn c':=by
    obtain⟨⟨_,a,c,h1,_⟩,⟨_,a',c',h3,_⟩⟩:=h1;exact⟨a,c,a',c',h1,h3⟩
  clear h1 hR;have rA:=zB6 w (.slice a p.n c) (.slice a' p.hn c') (.int .i64 xs) (.int .i64 xb) 33 61;by_cases hn:Nil xs xb
  · have HN:=zE hn
    obtain⟨rfl,rfl⟩:=hn;obtain⟨_,_,aA,_⟩:=rA;go_enter Tryz.func155,Tryz.ntmps155;go_wp2;go_ret;exact⟨zG.yes (Or.inl HN.out),aA⟩
  · have HN:=zE hn
    have e0:=zAu hn;clear hn;have iA:Hid (∀t:Bool,(t=true↔zr p xs xb/\zKf p (p.s xs.toNat)/\zPy p (zR p xs xb))->zG (zKk p xs xb) (.returned (.bool t))):=fun t ht=>⟨t,rfl,ht.trans ⟨fun h=>Or.inr h,fun h=>h.resolve_left HN.out⟩⟩
    go_enter Tryz.func155,Tryz.ntmps155;go_upto_region 1 with fail;generalize (w.alloc (.cells #[.slice a p.n c,.slice a' p.hn c'] 33)).alloc (.cells #[.int .i64 xs,.int .i64 xb] 61)=W at rA ⊢;obtain⟨hB,hX,aA,hz⟩:=rA;have HB:=zE hB;have HX:=zE hX;clear hB hX
    go_cut [7] (fun v wc=>v = .bool false/\W=wc)
    case first=>
      obtain⟨⟨y0,y1⟩,⟨y2,y3⟩⟩:=HX.out;rcases e0 with e0 | ⟨e0,e1⟩
      all_goals
        go_wp2_with fail
        go_meet
        case rel=>exact⟨rfl,rfl⟩
    case rest=>
      obtain⟨rfl,rfl⟩:=hcut;clear e0;obtain⟨⟨x0,x1⟩,⟨x2,x3⟩⟩:=HB.out;obtain⟨⟨y0,y1⟩,⟨y2,y3⟩⟩:=HX.out;go_upto_region 3 with fail;by_cases hP:zr p xs xb
      · have HP:=zE hP
        clear hP;by_cases mA:zKf p (p.s xs.toNat)
        · have lA:=zE mA
          clear mA;go_region_held3 (fun w'=>w'.cell? ⟨w.heap.size,0,none⟩=some (.slice a p.n c)/\w'.cell? ⟨w.heap.size,1,none⟩=some (.slice a' p.hn c')/\w'.cell? ⟨w.heap.size+1,0,none⟩=some (.int .i64 xs)/\w'.cell? ⟨w.heap.size+1,1,none⟩=some (.int .i64 xb)) (go_keep)
            (first
              | (go_at_call 191
                 refine(zEp _ p.n lo hi p.s xs xb _ ?_).mono ?_
                 (first | exact Hp.out.1.zRX aA | exact Hp.out.1.zRX aA.drew)
                 rintro e w1 ⟨⟨t1,rfl,cA⟩,gA⟩;rw[zEs HR.out]at cA;obtain rfl:t1=true:=cA.2 HP.out;clear cA;have bA:Below W.heap.size W w1:=(by first | exact gA | exact zK gA);obtain⟨⟨k0,_⟩,⟨k1,_⟩⟩:=HB.out.zRX bA;obtain⟨⟨k2,_⟩,⟨k3,_⟩⟩:=HX.out.zRX bA)
              | (go_at_call 195
                 refine(zHm p HR.out _ lo hi xs xb _ ?_ HP.out).mono ?_;exact Hp.out.1.zRX (zA aA bA);rintro e w2 ⟨⟨t2,rfl,jA⟩,oA⟩;obtain rfl:t2=true:=jA.2 lA.out;clear jA;have fA:=zA bA oA;obtain⟨⟨l0,_⟩,⟨l1,_⟩⟩:=HB.out.zRX fA;obtain⟨⟨l2,_⟩,⟨l3,_⟩⟩:=HX.out.zRX fA)
              | (go_at_call 197
                 refine(zJf p HR.out _ lo hi xs xb _ ?_ (Or.inr HP.out)).mono ?_;exact Hp.out.1.zRX (zA aA fA);rintro e w3 ⟨v3,rfl,eA,aB⟩;obtain⟨na,nc,rfl,_⟩:=zY eA;have nA:=zA fA aB;have vA:=zPM (by have:=qN p xs xb;unfold maxLen;omega) eA;obtain⟨⟨m0,_⟩,⟨m1,_⟩⟩:=HB.out.zRX nA;obtain⟨⟨m2,_⟩,⟨m3,_⟩⟩:=HX.out.zRX nA)
              | (go_at_call 196
                 refine(zOS _ _ _ lo hi 0 w3.heap.size _ p _ _ _ ?_ vA).mono ?_;exact Hp.out.zRX (zA aA nA);rintro e w4 ⟨⟨t4,rfl,pA⟩,tA⟩;rw[zMv]at pA;have sA:=zA nA tA;obtain⟨⟨n0,_⟩,⟨n1,_⟩⟩:=HB.out.zRX sA;obtain⟨⟨n2,_⟩,⟨n3,_⟩⟩:=HX.out.zRX sA))
          have kA:=zA aA sA;have HT:=zE pA;clear pA;go_wp2;go_ret;exact⟨iA.out t4 (HT.out.trans ⟨fun h=>⟨HP.out,lA.out,h⟩,fun h=>h.2.2⟩),kA⟩
        · have lA:=zE mA
          clear mA;refine wp_region_held_drew (S:=(fun w'=>w'.cell? ⟨w.heap.size,0,none⟩=some (.slice a p.n c)/\w'.cell? ⟨w.heap.size,1,none⟩=some (.slice a' p.hn c')/\w'.cell? ⟨w.heap.size+1,0,none⟩=some (.int .i64 xs)/\w'.cell? ⟨w.heap.size+1,1,none⟩=some (.int .i64 xb))) (by kernel_rfl) ?_ (fun hHeld=>?_)
          · (try dsimp only)
            go_keep
          refine tk 0 (h:=tk 1 (h:=tk 2 (h:=?_)));refine rd [3] (rc (fun K hK=>?_) .nil);go_simp;go_at_call 191;refine(zEp _ p.n lo hi p.s xs xb _ ?_).mono ?_
          · first | exact Hp.out.1.zRX aA | exact Hp.out.1.zRX aA.drew
          rintro e w1 ⟨⟨t1,rfl,cA⟩,gA⟩;rw[zEs HR.out]at cA;obtain rfl:t1=true:=cA.2 HP.out;clear cA;have bA:Below W.heap.size W w1:=(by first | exact gA | exact zK gA);obtain⟨⟨k0,_⟩,⟨k1,_⟩⟩:=HB.out.zRX bA;obtain⟨⟨k2,_⟩,⟨k3,_⟩⟩:=HX.out.zRX bA
          (try go_wp2_with fail)
          refine hK.out _ _ (by(try dsimp only);go_keep) ?_;clear hK K hHeld;intro hHeld
          try simp only[Act.put,s1,s2,s3]
          refine tk 4 (h:=tk 5 (h:=tk 6 (h:=tk 7 (h:=?_))));refine rd [8] (rc (fun K hK=>?_) .nil);go_simp;go_at_call 195;refine(zHm p HR.out _ lo hi xs xb _ ?_ HP.out).mono ?_
          · exact Hp.out.1.zRX (zA aA bA)
          rintro e w2 ⟨⟨t2,rfl,jA⟩,oA⟩;obtain rfl:t2=false:=zQ jA lA.out;clear jA;have fA:=zA bA oA;obtain⟨⟨l0,_⟩,⟨l1,_⟩⟩:=HB.out.zRX fA;obtain⟨⟨l2,_⟩,⟨l3,_⟩⟩:=HX.out.zRX fA
          (try go_wp2_with fail)
          refine hK.out _ _ (by(try dsimp only);go_keep) ?_;clear hK K hHeld;intro hHeld
          try simp only[Act.put,s1,s2,s3]
          refine tk 9 (h:=tk 10 (h:=ts 11 (h:=ts 12 (h:=ts 13 (h:=ts 14 (h:=?_))))));refine rd [15] (rc (fun K hK=>?_) .nil);split
          · rename_i dA
            exact absurd (show false=true from dA) Bool.false_ne_true
          refine hK.out _ _ (by assumption) (fun hHeld=>?_);clear hK K
          try simp only[Act.put,s1,s2,s3]
          refine rd [16] (rc (fun K hK=>?_) .nil);split
          · rename_i dA
            exact absurd (show false=true from dA) Bool.false_ne_true
          refine hK.out _ _ (by assumption) (fun hHeld=>?_);clear hK K
          try simp only[Act.put,s1,s2,s3]
          refine tk 17 (h:=tk 18 (h:=?_));refine wpAnyH_done (by kernel_rfl) ?_ _;have kA:=zA aA fA;go_wp2;go_ret;exact⟨iA.out false ⟨fun h=>(by cases h),fun h=>absurd h.2.1 lA.out⟩,kA⟩
      · have HP:=zE hP
        clear hP;refine wp_region_held_drew (S:=(fun w'=>w'.cell? ⟨w.heap.size,0,none⟩=some (.slice a p.n c)/\w'.cell? ⟨w.heap.size,1,none⟩=some (.slice a' p.hn c')/\w'.cell? ⟨w.heap.size+1,0,none⟩=some (.int .i64 xs)/\w'.cell? ⟨w.heap.size+1,1,none⟩=some (.int .i64 xb))) (by kernel_rfl) ?_ (fun hHeld=>?_)
        · (try dsimp only)
          go_keep
        refine tk 0 (h:=tk 1 (h:=tk 2 (h:=?_)));refine rd [3] (rc (fun K hK=>?_) .nil);go_simp;go_at_call 191;refine(zEp _ p.n lo hi p.s xs xb _ ?_).mono ?_
        · first | exact Hp.out.1.zRX aA | exact Hp.out.1.zRX aA.drew
        rintro e w1 ⟨⟨t1,rfl,cA⟩,gA⟩;rw[zEs HR.out]at cA;obtain rfl:t1=false:=zQ cA HP.out;clear cA;have bA:Below W.heap.size W w1:=(by first | exact gA | exact zK gA);obtain⟨⟨k0,_⟩,⟨k1,_⟩⟩:=HB.out.zRX bA;obtain⟨⟨k2,_⟩,⟨k3,_⟩⟩:=HX.out.zRX bA
        (try go_wp2_with fail)
        refine hK.out _ _ (by(try dsimp only);go_keep) ?_;clear hK K hHeld;intro hHeld
        try simp only[Act.put,s1,s2,s3]
        refine tk 4 (h:=ts 5 (h:=ts 6 (h:=ts 7 (h:=?_))));refine rd [8] (rc (fun K hK=>?_) .nil);split
        · rename_i dA
          exact absurd (show false=true from dA) Bool.false_ne_true
        refine hK.out _ _ (by assumption) (fun hHeld=>?_);clear hK K
        try simp only[Act.put,s1,s2,s3]
        refine tk 9 (h:=tk 10 (h:=ts 11 (h:=ts 12 (h:=ts 13 (h:=ts 14 (h:=?_))))));refine rd [15] (rc (fun K hK=>?_) .nil);split
        · rename_i dA
          exact absurd (show false=true from dA) Bool.false_ne_true
        refine hK.out _ _ (by assumption) (fun hHeld=>?_);clear hK K
        try simp only[Act.put,s1,s2,s3]
        refine rd [16] (rc (fun K hK=>?_) .nil);split
        · rename_i dA
          exact absurd (show false=true from dA) Bool.false_ne_true
        refine hK.out _ _ (by assumption) (fun hHeld=>?_);clear hK K
        try simp only[Act.put,s1,s2,s3]
        refine tk 17 (h:=tk 18 (h:=?_));refine wpAnyH_done (by kernel_rfl) ?_ _;have kA:=zA aA bA;go_wp2;go_ret;exact⟨iA.out false ⟨fun h=>(by cases h),fun h=>absurd h.1 HP.out⟩,kA⟩
def icl(l:List Int):List Value:=l.map (Value.int .i64)
theorem zND(l m:List Int):icl (l ++ m)=icl l ++ icl m:=by simp[icl]
theorem zF3{w:World}{base:Nat}{v:Value}{l:List Int}(hm:l.length<=maxLen)(h:w.ownsRow base 2 1 v l.length (icl l)):qV w 0 w.heap.size v l.length (fun i=>l.getD i 0):=by
 by_cases h0:0<l.length
 ·obtain⟨g,cA,rfl,bA,hb,dA,aA⟩:=qZ h h0;refine⟨hm,_,cA,rfl,bA,fun _=>⟨g,0,rfl,Nat.zero_le _,dA,fun i hi=>?_⟩⟩;rw[Nat.zero_add];refine(aA i _ ?_).1;simp[icl,hi]
 ·obtain⟨a,cA,rfl,bA⟩:=zY h;exact⟨hm,a,cA,rfl,bA,fun h=>absurd h h0⟩
theorem zF1(l:List Int)(x:Int):Has l.length (fun i=>l.getD i 0) x↔x∈l:=by
 have aA:∀i (h:i<l.length),l.getD i 0=l[i]:=fun i h=>by rw[List.getD_eq_getElem?_getD,List.getElem?_eq_getElem h,Option.getD_some]
 constructor
 ·rintro⟨j,hj,e⟩;rw[<-e];show l.getD j 0∈l;rw[aA j hj];exact List.getElem_mem hj
 ·intro h;obtain⟨i,hi,rfl⟩:=List.getElem_of_mem h;exact⟨i,hi,aA i hi⟩
end Go.Proofs.YtmgeglgboadfiaaGreatDoor
