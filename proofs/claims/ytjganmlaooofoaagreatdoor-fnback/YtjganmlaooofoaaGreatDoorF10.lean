/- A part of the proof. -/
import Derived.Test.YtjganmlaooofoaaGreatDoorF9
import Derived.Deep.OwnRows
set_option linter.unusedVariables false
set_option maxRecDepth 20000
set_option maxHeartbeats 4000000
namespace Go.Proofs.YtjganmlaooofoaaGreatDoor
open Go.RowKit
def zKW(n:Nat)(f:Nat->zN)(s:zN):Prop:=∀i,i<8->zCb n f s.birth (s.ks i) (s.kb i) (s.ks i) (s.kb i)
theorem zDq.uniq{n:Nat}{f:Nat->zN}{x ps pb bA aA:Int}(h:zDq n f x ps pb)(h':zDq n f x bA aA):ps=bA/\pb=aA:=by
 rcases h with⟨a,b,c,rfl,rfl⟩ | ⟨a,rfl,rfl⟩<;>rcases h' with⟨a',b',c',rfl,rfl⟩ | ⟨a',rfl,rfl⟩
 ·exact⟨rfl,rfl⟩
 ·exact absurd ⟨a,b,c⟩ a'
 ·exact absurd ⟨a',b',c'⟩ a
 ·exact⟨rfl,rfl⟩
theorem zCb.uniq{n:Nat}{f:Nat->zN}{b ks kb rs rb bA aA:Int}(h:zCb n f b ks kb rs rb)(h':zCb n f b ks kb bA aA):rs=bA/\rb=aA:=by
 obtain⟨ps,pb,hp,h⟩:=h;obtain⟨eA,dA,cA,h'⟩:=h';obtain⟨rfl,rfl⟩:=hp.uniq cA;rcases h with⟨a,rfl,rfl⟩ | ⟨a,rfl,rfl⟩<;>rcases h' with⟨a',rfl,rfl⟩ | ⟨a',rfl,rfl⟩
 ·exact⟨rfl,rfl⟩
 ·exact absurd a a'
 ·exact absurd a' a
 ·exact⟨rfl,rfl⟩
theorem zWO(g:Nat->Int)(k:Nat)(hk:k<8)(x y:Int):((zAd g).setIfInBounds (k*2) (.int .i64 x)).setIfInBounds (k*2+1) (.int .i64 y)=zAd (fun j=>if j=k*2 then x else if j=k*2+1 then y else g j):=by
 apply Array.ext_getElem?;intro i;rw[Array.getElem?_setIfInBounds,Array.getElem?_setIfInBounds];simp only[Array.size_setIfInBounds,zAc];by_cases aA:i<16
 ·rw[zDu _ aA,zDu _ aA];by_cases e1:k*2+1=i
  ·subst e1;rw[if_pos rfl,if_pos (by omega),if_neg (by omega),if_pos rfl]
  ·rw[if_neg e1];by_cases e0:k*2=i
   ·subst e0;rw[if_pos rfl,if_pos (by omega),if_pos rfl]
   ·rw[if_neg e0,if_neg (by omega),if_neg (by omega)]
 ·have n1:(zAd g)[i]?=none:=Array.getElem?_eq_none (by rw[zAc];omega);have n2:(zAd (fun j=>if j=k*2 then x else if j=k*2+1 then y else g j))[i]?=none:=Array.getElem?_eq_none (by rw[zAc];omega);rw[n1,n2,if_neg (by omega),if_neg (by omega)]
theorem zWj(g:Nat->Int)(k:Nat)(hk:k<8)(w:World):(Instr.index 194 (.agg (zAd g)) (.int .i64 (k:Int))).run Tryz.prog w = .ok (.agg #[.int .i64 (g (k*2)),.int .i64 (g (k*2+1))]) w:=by
 rcases(by omega:k=0\/k=1\/k=2\/k=3\/k=4\/k=5\/k=6\/k=7)with rfl | rfl | rfl | rfl | rfl | rfl | rfl | rfl
 all_goals kernel_rfl
theorem zZq(g:Nat->Int)(k:Nat)(hk:k<8)(w:World):(part 38 (zAd g) (k*2)).run Tryz.prog w = .ok (.agg #[.int .i64 (g (k*2)),.int .i64 (g (k*2+1))]) w:=by
 rcases(by omega:k=0\/k=1\/k=2\/k=3\/k=4\/k=5\/k=6\/k=7)with rfl | rfl | rfl | rfl | rfl | rfl | rfl | rfl
 all_goals kernel_rfl
theorem zaz(d:Nat)(a b c e:Int)(w:World):(Op.equalIn (d+2) 38 (.agg #[.int .i64 a,.int .i64 b]) (.agg #[.int .i64 c,.int .i64 e])).run Tryz.prog w = .ok (a == c && b == e) w:=by
 by_cases h1:a=c<;>by_cases h2:b=e
 all_goals simp[go_sem,h1,h2]
theorem zbd(w:World):(sizeOf 38).run Tryz.prog w = .ok 2 w:=by kernel_rfl
theorem zPA{P:Program}(b:Nat->Bool)(F:Nat->Option Bool×Unit->Sem (ForInStep (Option Bool×Unit))):∀(L:List Nat) (w:World),(∀i∈L,∀s w,(F i s).run P w = .ok (if b i then .yield (none,())else .done (some false,())) w)->
  (forIn L (none,()) F).run P w = .ok (if L.all b then(none,())else(some false,())) w
 | [],w,_=>by simp[Sem.run_pure]
 | i :: L,w,hF=>by
  simp only[List.forIn_cons,Sem.run_bind,hF i (by simp),Result.andThen_ok,List.all_cons];by_cases hb:b i=true
  ·simp only[hb,if_true,Bool.true_and];exact zPA b F L w (fun j hj=>hF j (by simp[hj]))
  ·simp[hb,Sem.run_pure]
def zOJ(g h:Nat->Int):Bool:=(List.range 8).all fun i=>g (i*2) == h (i*2) && g (i*2+1) == h (i*2+1)
theorem zRf(g h:Nat->Int):zOJ g h=true↔∀i,i<8->g (i*2)=h (i*2)/\g (i*2+1)=h (i*2+1):=by
 simp[zOJ,List.all_eq_true]
theorem zWW(g h:Nat->Int)(d:Nat)(w:World):(Op.equalIn (d+3) 194 (.agg (zAd g)) (.agg (zAd h))).run Tryz.prog w = .ok (zOJ g h) w:=by
 rw[Op.equalIn];simp only[Sem.run_bind,run_underlying zRS,Result.andThen_ok,zbd];rw[Std.Legacy.Range.forIn_eq_forIn_range'];have e:=zPA (P:=Tryz.prog) (fun i=>g (i*2) == h (i*2) && g (i*2+1) == h (i*2+1)) (fun i (bA:Option Bool×Unit)=>do
      let __do_lift <-part 38 (zAd g) (i*2)
      let __do_lift_1 <-part 38 (zAd h) (i*2)
      let __do_lift <-Op.equalIn (d+2) 38 __do_lift __do_lift_1
      if (!__do_lift)=true then pure (ForInStep.done (some false,()))else pure (ForInStep.yield (none,()))) (List.range 8) w (fun i hi s w=>by
   have aA:i<8:=(by simpa using hi);simp only[Sem.run_bind,zZq _ i aA,Result.andThen_ok,zaz];cases (g (i*2) == h (i*2) && g (i*2+1) == h (i*2+1))<;>simp[Sem.run_pure])
 have e2:List.range' 0 (([:8]:Std.Legacy.Range).size) ([:8]:Std.Legacy.Range).step=List.range 8:=by rfl
 rw[e2,e];simp only[Result.andThen_ok];unfold zOJ;cases ((List.range 8).all fun i=>g (i*2) == h (i*2) && g (i*2+1) == h (i*2+1))<;>simp[Sem.run_pure]
theorem zUx(g h:Nat->Int)(w:World):(binOp .eql 194 (.agg (zAd g)) (.agg (zAd h))).run Tryz.prog w = .ok (.bool (zOJ g h)) w:=by
 rw[run_eql_struct,zWW g h 9997];rfl
theorem zOS(v v0 v1 v2:Value)(n lo hi oA lA:Nat)(f:Nat->zN)(s:zN)(w:World)(h1:zA3 w lo hi v n f)(h2:zCK w oA lA v0 v1 v2 s)(hk:s.kn=8) :
  Calls Tryz.prog 155 #[v,.agg #[v0,v1,v2]] w fun e w'=>zL (zKW n f s) e/\Below w.heap.size w w':=by
 have Hv:Hid (zA3 w lo hi v n f):=h1;obtain⟨m1,a,c,rfl,mc,g1⟩:=h1;have Hs:Hid (zCK w oA lA v0 v1 v2 s):=h2;obtain⟨rfl,⟨m2,ka,kc,rfl,kB,g2⟩,rfl,m3⟩:=h2;have Hk:Hid (s.kn=8):=hk;clear g1 g2 hk;go_enter Tryz.func155,Tryz.ntmps155;go_wp2_with fail;have iA:=zD w (.cells #[.int .i64 s.birth,.slice ka s.kn kc,.string s.data] 101);refine(zJA _ _ _ oA lA s _ (Hs.out.zeF iA) (Or.inr Hk.out)).mono ?_;rintro e w1 ⟨rfl,kA⟩;have Hx:Hid (zEb w1 w.heap.size (.int .i64 s.birth) (.slice ka s.kn kc) (.string s.data)):=(zEb.new w _ _ _ _).zeF kA;have cB:=zA iA kA;have bA:Hid ((Tryz.prog.info? 194).map (·.size)=some (yh s).size):=by
  show _=_;rw[yh,zAc];exact zJ0
 clear iA kA;have tA:(#[Value.int .i64 0,Value.int .i64 0,Value.int .i64 0,Value.int .i64 0,Value.int .i64 0,Value.int .i64 0,Value.int .i64 0,Value.int .i64 0,Value.int .i64 0,Value.int .i64 0,Value.int .i64 0,Value.int .i64 0,Value.int .i64 0,Value.int .i64 0,Value.int .i64 0,Value.int .i64 0]:Array Value)=zAd (fun _=>0):=rfl;have gA:Hid ((#[Value.int .i64 0,Value.int .i64 0,Value.int .i64 0,Value.int .i64 0,Value.int .i64 0,Value.int .i64 0,Value.int .i64 0,Value.int .i64 0,Value.int .i64 0,Value.int .i64 0,Value.int .i64 0,Value.int .i64 0,Value.int .i64 0,Value.int .i64 0,Value.int .i64 0,Value.int .i64 0]:Array Value)=zAd (fun _=>0)):=tA;clear tA;go_wp2_with (first
  | (refine wpList_store_row rfl 194 (.tmp 5) (.tmp 10) rfl w1.heap.size (yh s) rfl rfl 194 #[Value.int .i64 0,Value.int .i64 0,Value.int .i64 0,Value.int .i64 0,Value.int .i64 0,Value.int .i64 0,Value.int .i64 0,Value.int .i64 0,Value.int .i64 0,Value.int .i64 0,Value.int .i64 0,Value.int .i64 0,Value.int .i64 0,Value.int .i64 0,Value.int .i64 0,Value.int .i64 0] (heap_alloc_last _ _) bA.out (by rw[yh,zAc];rfl) (zFB _) ?_;rw[World.setRow_alloc_new])
  | (refine wpList_load_row rfl 194 (.tmp 5) rfl w1.heap.size rfl 194 (yh s) (0,0) _ ?hh zRS rfl bA.out ?_;(exact(Below.heap_alloc _ _ _ (by simp)).trans (heap_alloc_last _ _))))
 have iB:w.heap.size<w1.heap.size:=Hx.out.1.lt
 go_loopw [12] (fun i wr=>∃(k:Nat) (g:Nat->Int),k<=8/\i = .int .i64 k/\(∀j,j<k->zCb n f s.birth (s.ks j) (s.kb j) (g (j*2)) (g (j*2+1)))/\zEb wr w.heap.size (.int .i64 s.birth) (.slice ka s.kn kc) (.string s.data)/\
   wr.heap[w1.heap.size]?=some (.cells (yh s) 194 (0,0))/\wr.heap[w1.heap.size+1]?=some (.cells (zAd g) 194 (0,0))/\Below w.heap.size w wr) (fun i _=>8 - (intOf i).toNat)
 case atStart=>
  refine⟨0,fun _=>0,Nat.zero_le _,rfl,fun j hj=>absurd hj (Nat.not_lt_zero _),(Hx.out.zeF (zD _ _)).zeF (zD _ _),?_,?_,zA (zA cB (zD _ _)) (zD _ _)⟩
  ·exact(Below.heap_alloc _ _ _ (by simp)).trans (heap_alloc_last _ _)
  ·have:=heap_alloc_last (w1.alloc (.cells (yh s) 194)) (.cells #[Value.int .i64 0,Value.int .i64 0,Value.int .i64 0,Value.int .i64 0,Value.int .i64 0,Value.int .i64 0,Value.int .i64 0,Value.int .i64 0,Value.int .i64 0,Value.int .i64 0,Value.int .i64 0,Value.int .i64 0,Value.int .i64 0,Value.int .i64 0,Value.int .i64 0,Value.int .i64 0] 194);rw[World.size_alloc]at this;rw[this,gA.out]
 case round=>
  obtain⟨k,g,hk,rfl,cA,hx,hK,hF,hb⟩:=hrel;have aA:Hid (∀j,j<k->zCb n f s.birth (s.ks j) (s.kb j) (g (j*2)) (g (j*2+1))):=cA;have HX:Hid (zEb wr w.heap.size (.int .i64 s.birth) (.slice ka s.kn kc) (.string s.data)):=hx;have HK:Hid (wr.heap[w1.heap.size]?=some (.cells (yh s) 194 (0,0))):=hK;have HF:Hid (wr.heap[w1.heap.size+1]?=some (.cells (zAd g) 194 (0,0))):=hF;clear cA hx hK hF;have nA:w1.heap.size+1<wr.heap.size:=(Array.getElem?_eq_some_iff.1 HF.out).1;by_cases sA:k<8
  ·have gB:(k:Int)<8:=(by omega);have mA:∀w,(Instr.index 194 (.agg (yh s)) (.int .i64 (k:Int))).run Tryz.prog w = .ok (.agg #[.int .i64 (s.ks k),.int .i64 (s.kb k)]) w:=fun w=>by
    have e:=zWj (zj s) k sA w;have e0:zj s (k*2)=s.ks k:=(by unfold zj;rw[if_pos (by have:=Hk.out;omega),if_pos (by omega),show k*2 / 2=k by omega]);have e1:zj s (k*2+1)=s.kb k:=(by unfold zj;rw[if_pos (by have:=Hk.out;omega),if_neg (by omega),show(k*2+1) / 2=k by omega]);rw[e0,e1]at e;exact e
   obtain⟨⟨x0,x1⟩,⟨x2,x3⟩,⟨x4,x5⟩⟩:=HX.out;have jB:w.heap.size<wr.heap.size:=(by omega);go_wp2_with fail;have jA:=zD wr (.cells #[.int .i64 (s.ks k),.int .i64 (s.kb k)] 38);refine(zQZ _ n lo hi f _ _ _ _ (Hv.out.zeF (zA hb jA))).mono ?_;rintro e w2 ⟨⟨rs,rb,rfl,rA⟩,pA⟩;have bB:Hid (zCb n f s.birth (s.ks k) (s.kb k) rs rb):=rA;have dA:=zA jA pA;have eA:Hid (w2.heap[w1.heap.size+1]?=some (.cells (zAd g) 194 (0,0))):=(dA.block _ nA).trans HF.out;have vA:Hid (w2.heap[w1.heap.size]?=some (.cells (yh s) 194 (0,0))):=(dA.block _ (by omega)).trans HK.out;have aB:Hid (zEb w2 w.heap.size (.int .i64 s.birth) (.slice ka s.kn kc) (.string s.data)):=HX.out.zeF dA;have eB:=zA hb dA;clear rA pA jA dA x0 x1 x2 x3 x4 x5 mA HF HK HX hb;obtain⟨y0,y1⟩:=zK (i:=k*2) eA.out (zDu g (by omega));obtain⟨y2,y3⟩:=zK (i:=k*2+1) eA.out (zDu g (by omega));go_wp2;go_roundw
   case rel=>
    refine⟨k+1,fun j=>if j=k*2 then rs else if j=k*2+1 then rb else g j,by omega,by go_num,fun j hj=>?_,(aB.out.other _ (by omega)).other _ (by omega),?_,?_,(eB.setCell (by show _<=w1.heap.size+1;omega) _).setCell (by show _<=w1.heap.size+1;omega) _⟩
    ·by_cases e:j=k
     ·subst e;simp only[if_true];rw[if_neg (by omega)];exact bB.out
     ·simp only;rw[if_neg (by omega),if_neg (by omega),if_neg (by omega),if_neg (by omega)];exact aA.out j (by omega)
    ·rw[Below.heap_setCell _ _ _ _ (by show w1.heap.size≠w1.heap.size+1;omega),Below.heap_setCell _ _ _ _ (by show w1.heap.size≠w1.heap.size+1;omega)];exact vA.out
    ·have:=zHM (o:=k*2+1) (.int .i64 rb) (zHM (o:=k*2) (.int .i64 rs) eA.out);rw[zWO g k sA]at this;exact this
   case measure=>simp[intOf];omega
  ·obtain rfl:k=8:=(by omega);have fB:∀w,(binOp .eql 194 (.agg (zAd g)) (.agg (yh s))).run Tryz.prog w = .ok (.bool (zOJ g (zj s))) w:=fun w=>zUx g (zj s) w
   have fA:Hid ((Tryz.prog.info? 194).map (·.size)=some (zAd g).size):=by
    show _=_;rw[zAc];exact zJ0
   go_wp2_with (first
    | (refine wpList_load_row rfl 194 (.tmp 6) rfl (w1.heap.size+1) rfl 194 (zAd g) (0,0) _ HF.out zRS rfl fA.out ?_)
    | (refine wpList_load_row rfl 194 (.tmp 5) rfl w1.heap.size rfl 194 (yh s) (0,0) _ HK.out zRS rfl bA.out ?_))
   go_ret;refine⟨⟨_,rfl,?_⟩,hb⟩;rw[zRf];have e0:∀i,i<8->zj s (i*2)=s.ks i/\zj s (i*2+1)=s.kb i:=fun i hi=>by
    have:=Hk.out;refine⟨?_,?_⟩
    ·unfold zj;rw[if_pos (by omega),if_pos (by omega),show i*2 / 2=i by omega]
    ·unfold zj;rw[if_pos (by omega),if_neg (by omega),show(i*2+1) / 2=i by omega]
   constructor
   ·intro h i hi;have:=aA.out i hi;rw[(h i hi).1,(h i hi).2,(e0 i hi).1,(e0 i hi).2]at this;exact this
   ·intro h i hi;rw[(e0 i hi).1,(e0 i hi).2];exact(aA.out i hi).uniq (h i hi)
def zEB(n:Nat)(f:Nat->zN)(s:zN):Prop:=zAO s\/zLk s\/(zRG s/\zKW n f s)
def zJZ(p:zF)(i:Nat):Prop:=¬zDq p.n p.s (p.h i) 0 0/\¬Has i p.h (p.h i)
def zcl(p:zF):Prop:=p.n<=200/\p.hn<=p.n/\(∀i,i<p.n->zEB p.n p.s (p.s i))/\∀i,i<p.hn->zJZ p i
theorem zOb(v v0 v1 v2:Value)(n lo hi bA aA:Nat)(f:Nat->zN)(s:zN)(w:World)(h1:zA3 w lo hi v n f)(h2:zCK w bA aA v0 v1 v2 s) :
  Calls Tryz.prog 114 #[v,.agg #[v0,v1,v2]] w fun e w'=>zL (zEB n f s) e/\Below w.heap.size w w':=by
 have Hv:Hid (zA3 w lo hi v n f):=h1;obtain⟨m1,a,c,rfl,mc,g1⟩:=h1;have Hs:Hid (zCK w bA aA v0 v1 v2 s):=h2;obtain⟨rfl,⟨m2,ka,kc,rfl,oA,g2⟩,rfl,m3⟩:=h2;clear g1 g2;go_enter Tryz.func114,Tryz.ntmps114;go_wp2_with fail;have gA:=zD w (.cells #[.int .i64 s.birth,.slice ka s.kn kc,.string s.data] 101);refine(zGy _ _ _ bA aA s _ (Hs.out.zeF gA)).mono ?_;rintro e w1 ⟨⟨t,rfl,ht⟩,iA⟩;have Hx:Hid (zEb w1 w.heap.size (.int .i64 s.birth) (.slice ka s.kn kc) (.string s.data)):=(zEb.new w _ _ _ _).zeF iA;have dA:=zA gA iA;clear gA iA;by_cases hf:zAO s
 ·obtain rfl:t=true:=ht.2 hf;have HF:Hid (zAO s):=hf;clear ht hf;go_wp2;go_ret;exact⟨zL.yes (Or.inl HF.out),dA⟩
 ·obtain rfl:t=false:=qj ht hf;have HF:Hid (¬zAO s):=hf;clear ht hf;obtain⟨⟨x0,x1⟩,⟨x2,x3⟩,⟨x4,x5⟩⟩:=Hx.out;go_wp2_with fail;refine(zM1 _ _ _ bA aA s _ (Hs.out.zeF dA)).mono ?_;rintro e w2 ⟨⟨t,rfl,ht⟩,jA⟩;have fA:Hid (zEb w2 w.heap.size (.int .i64 s.birth) (.slice ka s.kn kc) (.string s.data)):=Hx.out.zeF jA;have eA:=zA dA jA;clear jA dA x0 x1 x2 x3 x4 x5 Hx;by_cases hf:zLk s
  ·obtain rfl:t=true:=ht.2 hf;have HP:Hid (zLk s):=hf;clear ht hf;go_wp2;go_ret;exact⟨zL.yes (Or.inr (Or.inl HP.out)),eA⟩
  ·obtain rfl:t=false:=qj ht hf;have HP:Hid (¬zLk s):=hf;clear ht hf;obtain⟨⟨x0,x1⟩,⟨x2,x3⟩,⟨x4,x5⟩⟩:=fA.out;go_wp2_with fail;refine(zTr _ _ _ bA aA s _ (Hs.out.zeF eA)).mono ?_;rintro e w3 ⟨⟨t,rfl,ht⟩,kA⟩;have lA:Hid (zEb w3 w.heap.size (.int .i64 s.birth) (.slice ka s.kn kc) (.string s.data)):=fA.out.zeF kA;have cA:=zA eA kA;clear kA eA x0 x1 x2 x3 x4 x5 fA;by_cases hf:zRG s
   ·obtain rfl:t=true:=ht.2 hf;have HN:Hid (zRG s):=hf;clear ht hf;obtain⟨⟨x0,x1⟩,⟨x2,x3⟩,⟨x4,x5⟩⟩:=lA.out;go_wp2_with fail;refine(zOS _ _ _ _ n lo hi bA aA f s _ (Hv.out.zeF cA) (Hs.out.zeF cA) HN.out.2.1).mono ?_;rintro e w4 ⟨⟨t,rfl,ht⟩,mA⟩;have Ht:Hid (t=true↔zKW n f s):=ht;have nA:=zA cA mA;clear mA cA x0 x1 x2 x3 x4 x5 lA ht;go_wp2;go_ret;refine⟨⟨t,rfl,Ht.out.trans ⟨fun h=>Or.inr (Or.inr ⟨HN.out,h⟩),fun h=>?_⟩⟩,nA⟩;rcases h with h | h | h
    ·exact absurd h HF.out
    ·exact absurd h HP.out
    ·exact h.2
   ·obtain rfl:t=false:=qj ht hf;have HN:Hid (¬zRG s):=hf;clear ht hf;go_wp2;go_ret;refine⟨zL.no fun h=>?_,cA⟩;rcases h with h | h | h
    ·exact HF.out h
    ·exact HP.out h
    ·exact HN.out h.1
theorem zOO(v0 v1:Value)(lo hi:Nat)(p:zF)(w:World)(h1:zCG w lo hi v0 v1 p) :
  Calls Tryz.prog 115 #[.agg #[v0,v1]] w fun e w'=>zL (∀i,i<p.hn->zJZ p i) e/\Below w.heap.size w w':=by
 have Hp:Hid (zCG w lo hi v0 v1 p):=h1;obtain⟨⟨m1,a,c,rfl,mc,g1⟩,⟨m2,a',c',rfl,rA,g2⟩⟩:=h1;unfold maxLen at m1 m2;clear g1 g2;go_enter Tryz.func115,Tryz.ntmps115;go_wp2
 go_loopw [8] (fun i wr=>∃k:Nat,k<=p.hn/\i = .int .i64 k/\(∀j,j<k->zJZ p j)/\zAT wr w.heap.size (.slice a p.n c) (.slice a' p.hn c')/\Below w.heap.size w wr) (fun i _=>p.hn - (intOf i).toNat)
 case atStart=>exact⟨0,Nat.zero_le _,rfl,fun j hj=>absurd hj (Nat.not_lt_zero _),zAT.new _ _ _ _,zD _ _⟩
 case round=>
  obtain⟨k,hk,rfl,bA,hx,hb⟩:=hrel;have aA:Hid (∀j,j<k->zJZ p j):=bA;have Hx:Hid (zAT wr w.heap.size (.slice a p.n c) (.slice a' p.hn c')):=hx;clear bA hx;obtain⟨⟨y0,y1⟩,⟨y2,y3⟩⟩:=Hx.out;by_cases eA:k<p.hn
  ·have nA:(k:Int)<(p.hn:Int):=(by omega);have cA:=Hp.out.2.zeF hb;have fA:Hid (zCn wr lo hi (.slice a' p.hn c') p.hn p.h):=cA;obtain⟨_,a2,mA,kA,_,lA⟩:=cA;simp only[Value.slice.injEq,true_and]at kA;obtain⟨rfl,rfl⟩:=kA;obtain⟨b,off,rfl,_,_,k1⟩:=lA (by omega);have oA:=k1 k eA;clear k1 lA;go_wp2_with fail;refine(zIL _ p.n lo hi p.s _ _ (Hp.out.1.zeF hb)).mono ?_;rintro e w1 ⟨⟨ps,pb,rfl,jA⟩,dA⟩;have iA:Hid (zDq p.n p.s (p.h k) ps pb):=jA;have HX:Hid (zAT w1 w.heap.size (.slice a p.n c) (.slice (some ⟨b,off,none⟩) p.hn c')):=Hx.out.zeF dA;have HI:Hid (zCn w1 lo hi (.slice (some ⟨b,off,none⟩) k k) k p.h):=(fA.out.zeF dA).take (by omega) (by omega);have gA:=zA hb dA;clear jA dA y0 y1 y2 y3 Hx;by_cases hz:ps=0/\pb=0
   ·obtain⟨rfl,rfl⟩:=hz;go_wp2;go_ret;exact⟨zL.no fun h=>(h k eA).1 iA.out,gA⟩
   ·have HZ:Hid (¬zDq p.n p.s (p.h k) 0 0):=fun h=>by
     obtain⟨e0,e1⟩:=iA.out.uniq h;exact hz ⟨e0,e1⟩
    have e0:(ps == 0)=false\/(ps == 0)=true/\(pb == 0)=false:=by
     by_cases h:ps=0
     ·right;refine⟨by simp[h],?_⟩;have:pb≠0:=fun h'=>hz ⟨h,h'⟩
      simp[this]
     ·left;simp[h]
    clear hz;obtain⟨⟨y0,y1⟩,⟨y2,y3⟩⟩:=HX.out;have pA:k<=c':=(by omega);by_cases hh:Has k p.h (p.h k)
    ·have HH:Hid (Has k p.h (p.h k)):=hh;clear hh;rcases e0 with e0 | ⟨e0,e1⟩
     all_goals
      go_wp2_with fail;refine(zE1 _ k lo hi p.h _ _ HI.out).mono ?_;rintro e w2 ⟨⟨t,rfl,ht⟩,rfl⟩;obtain rfl:t=true:=ht.2 HH.out;clear ht;go_wp2;go_ret;exact⟨zL.no fun h=>(h k eA).2 HH.out,gA⟩
    ·have HH:Hid (¬Has k p.h (p.h k)):=hh;clear hh;rcases e0 with e0 | ⟨e0,e1⟩
     all_goals
      go_wp2_with fail;refine(zE1 _ k lo hi p.h _ _ HI.out).mono ?_;rintro e w2 ⟨⟨t,rfl,ht⟩,rfl⟩;obtain rfl:t=false:=qj ht HH.out;clear ht y0 y1 y2 y3;go_wp2;go_roundw
      case rel=>exact⟨k+1,by omega,by go_num,yJ eA aA.out ⟨HZ.out,HH.out⟩,HX.out,gA⟩
      case measure=>simp[intOf];omega
  ·obtain rfl:k=p.hn:=(by omega);go_wp2;go_ret;exact⟨zL.yes aA.out,hb⟩
theorem zZr:∀(m n:Nat) (h:Nat->Nat),(∀i,i<m->h i<n)->(∀i j,i<j->j<m->h i≠h j)->m<=n
 | 0,_,_,_,_=>Nat.zero_le _
 | m+1,0,h,hlt,_=>absurd (hlt 0 (by omega)) (Nat.not_lt_zero _)
 | m+1,n+1,h,hlt,hne=>by
  have key:=zZr m n (fun i=>if h i<h m then h i else h i - 1) (fun i hi=>by
   have a:=hlt i (by omega);have b:=hne i m hi (by omega);have c:=hlt m (by omega);show(if h i<h m then h i else h i - 1)<n;split<;>omega) (fun i j aA hj=>by
   have a:=hne i j aA (by omega);have b:=hne i m (by omega) (by omega);have c:=hne j m (by omega) (by omega);show(if h i<h m then h i else h i - 1)≠(if h j<h m then h j else h j - 1);split<;>split<;>omega)
  omega
theorem zMm{s:zN}(h:zAO s):s.birth=0:=h.1
theorem zZf{n:Nat}{f:Nat->zN}{s:zN}(h:zEB n f s)(hf:¬zAO s):1<=s.birth:=by
 rcases h with h | h | h
 ·exact absurd h hf
 ·exact h.1.1
 ·exact h.1.1.1
theorem zMk{p:zF}{s:zN}(h:zAO s\/zDp p s)(hf:¬zAO s):1<=s.birth:=by
 rcases h with h | h
 ·exact absurd h hf
 ·exact h.1.1
theorem zVA{p:zF}{b ks kb:Int}(aA:∀i,i<p.n->¬zAO (p.s i)->1<=(p.s i).birth):zCb p.n p.s b ks kb ks kb↔zUk p b ks kb:=by
 constructor
 ·rintro⟨ps,pb,hp,h⟩;rcases h with⟨h,rfl,rfl⟩ | ⟨h,rfl,rfl⟩
  ·exact Or.inl ⟨rfl,rfl⟩
  ·rcases hp with⟨h1,h2,h3,_,h5⟩ | ⟨h1,rfl,rfl⟩
   ·right;have hb:=aA ks.toNat (by omega) h3;rw[<-h5]at hb;refine⟨⟨hb,h1,h2,h5.symm⟩,?_⟩;by_cases hx:b<kb
    ·exact absurd (Or.inr hx) h
    ·omega
   ·exact absurd (Or.inl ⟨rfl,rfl⟩) h
 ·rintro(⟨rfl,rfl⟩ | ⟨⟨h1,h2,h3,h4⟩,h5⟩)
  ·by_cases hx:0<p.n/\¬zAO (p.s 0)
   ·refine⟨0,(p.s 0).birth,Or.inl ⟨by omega,by omega,?_,rfl,rfl⟩,Or.inl ⟨Or.inl ⟨rfl,rfl⟩,rfl,rfl⟩⟩;exact hx.2
   ·refine⟨0,0,Or.inr ⟨fun h=>hx ⟨by omega,h.2.2⟩,rfl,rfl⟩,Or.inl ⟨Or.inl ⟨rfl,rfl⟩,rfl,rfl⟩⟩
  ·refine⟨ks,kb,Or.inl ⟨h2,h3,fun hf=>?_,rfl,h4.symm⟩,Or.inr ⟨fun h=>?_,rfl,rfl⟩⟩
   ·have:=zMm hf;omega
   ·rcases h with h | h
    ·have:=h.2;omega
    ·omega
theorem zGa(p:zF):zcl p↔zg p:=by
 constructor
 ·rintro⟨h1,h2,h3,h4⟩;have aA:∀i,i<p.n->¬zAO (p.s i)->1<=(p.s i).birth:=fun i hi=>zZf (h3 i hi)
  refine⟨h1,fun i hi=>?_,fun i hi=>?_⟩
  ·rcases h3 i hi with h | h | h
   ·exact Or.inl h
   ·exact Or.inr ⟨h.1,Or.inl h.2⟩
   ·refine Or.inr ⟨h.1.1,Or.inr ⟨h.1.2.1,h.1.2.2,fun j hj=>?_⟩⟩;exact(zVA aA).1 (h.2 j (by have:=h.1.2.1;omega))
  ·obtain⟨ha,hb⟩:=h4 i hi;have hx:0<=p.h i/\p.h i<p.n/\¬zAO (p.s (p.h i).toNat):=by
    by_cases hx:0<=p.h i/\p.h i<p.n/\¬zAO (p.s (p.h i).toNat)
    ·exact hx
    ·exact absurd (Or.inr ⟨hx,rfl,rfl⟩) ha
   exact⟨hx.1,hx.2.1,hx.2.2,hb⟩
 ·rintro⟨h1,h3,h4⟩;have aA:∀i,i<p.n->¬zAO (p.s i)->1<=(p.s i).birth:=fun i hi=>zMk (h3 i hi)
  refine⟨h1,?_,fun i hi=>?_,fun i hi=>?_⟩
  ·refine zZr p.hn p.n (fun i=>(p.h i).toNat) (fun i hi=>?_) (fun i j bA hj=>?_)
   ·obtain⟨a,b,_,_⟩:=h4 i hi;show(p.h i).toNat<p.n;omega
   ·obtain⟨a,b,_,d⟩:=h4 j hj;obtain⟨a',b',_,_⟩:=h4 i (by omega);show(p.h i).toNat≠(p.h j).toNat;intro e;exact d ⟨i,bA,by omega⟩
  ·rcases h3 i hi with h | h
   ·exact Or.inl h
   ·rcases h.2 with g | g
    ·exact Or.inr (Or.inl ⟨h.1,g⟩)
    ·exact Or.inr (Or.inr ⟨⟨h.1,g.1,g.2.1⟩,fun j hj=>(zVA aA).2 (g.2.2 j (by omega))⟩)
  ·obtain⟨a,b,c,d⟩:=h4 i hi;refine⟨fun hx=>?_,d⟩;rcases hx with⟨_,_,_,e1,e2⟩ | ⟨hx,_⟩
   ·have:=aA (p.h i).toNat (by omega) c;omega
   ·exact hx ⟨a,b,c⟩
theorem zCt(v0 v1:Value)(lo hi:Nat)(p:zF)(w:World)(h1:zCG w lo hi v0 v1 p) :
  Calls Tryz.prog 68 #[.agg #[v0,v1]] w fun e w'=>zL (zg p) e/\Below w.heap.size w w':=by
 have Hp:Hid (zCG w lo hi v0 v1 p):=h1;obtain⟨⟨m1,a,c,rfl,mc,g1⟩,⟨m2,a',c',rfl,mA,g2⟩⟩:=h1;unfold maxLen at m1 m2;clear g1 g2;have fA:Hid (Below w.heap.size w (w.alloc (.cells #[.slice a p.n c,.slice a' p.hn c'] 26))):=zD _ _;by_cases hn:(200:Int)<p.n
 ·have H:Hid (¬zg p):=fun h=>by have:=h.1;omega
  go_enter Tryz.func68,Tryz.ntmps68;go_wp2;go_ret;exact⟨zL.no H.out,fA.out⟩
 by_cases kA:(p.n:Int)<p.hn
 ·have H:Hid (¬zg p):=fun h=>by have:=((zGa p).2 h).2.1;omega
  go_enter Tryz.func68,Tryz.ntmps68;go_wp2;go_ret;exact⟨zL.no H.out,fA.out⟩
 ·go_enter Tryz.func68,Tryz.ntmps68;go_wp2
  go_loopw [21] (fun i wr=>∃k:Nat,k<=p.n/\i = .int .i64 k/\(∀j,j<k->zEB p.n p.s (p.s j))/\zAT wr w.heap.size (.slice a p.n c) (.slice a' p.hn c')/\Below w.heap.size w wr) (fun i _=>p.n - (intOf i).toNat)
  case atStart=>exact⟨0,Nat.zero_le _,rfl,fun j hj=>absurd hj (Nat.not_lt_zero _),zAT.new _ _ _ _,fA.out⟩
  case round=>
   obtain⟨k,hk,rfl,bA,hx,hb⟩:=hrel;have aA:Hid (∀j,j<k->zEB p.n p.s (p.s j)):=bA;have Hx:Hid (zAT wr w.heap.size (.slice a p.n c) (.slice a' p.hn c')):=hx;clear bA hx;obtain⟨⟨y0,y1⟩,⟨y2,y3⟩⟩:=Hx.out;have lA:w.heap.size<wr.heap.size:=Hx.out.1.lt;by_cases iA:k<p.n
   ·have jA:(k:Int)<(p.n:Int):=(by omega);obtain⟨b,off,ka,kc,rfl,hs⟩:=(Hp.out.1.zeF hb).cells iA;have Hs:Hid (zEA wr b (off+k*3) lo hi ka kc (p.s k)):=hs;obtain⟨q0,q1,q2,_⟩:=hs;go_wp2_with fail;have dA:=zD wr (.cells #[.int .i64 (p.s k).birth,.slice ka (p.s k).kn kc,.string (p.s k).data] 101);refine(zOb _ _ _ _ p.n lo hi lo hi p.s (p.s k) _ (Hp.out.1.zeF (zA hb dA)) (Hs.out.slot.zeF dA)).mono ?_;rintro e w1 ⟨⟨t,rfl,ht⟩,cA⟩;have gA:=zA dA cA;have HX:Hid (zAT w1 w.heap.size (.slice (some ⟨b,off,none⟩) p.n c) (.slice a' p.hn c')):=Hx.out.zeF gA;have eA:=zA hb gA;have Ht:Hid (t=true↔zEB p.n p.s (p.s k)):=ht;clear dA cA gA ht q0 q1 q2 y0 y1 y2 y3 Hx Hs;cases t
    ·go_wp2;go_ret;refine⟨zL.no fun h=>?_,eA⟩;have:=((zGa p).2 h).2.2.1 k iA;exact absurd (Ht.out.2 this) (by simp)
    ·go_wp2;go_roundw
     case rel=>exact⟨k+1,by omega,by go_num,yJ iA aA.out (by simpa using Ht.out),HX.out,eA⟩
     case measure=>simp[intOf];omega
   ·obtain rfl:k=p.n:=(by omega);go_wp2_with fail;refine(zOO _ _ lo hi p _ (Hp.out.zeF hb)).mono ?_;rintro e w1 ⟨⟨t,rfl,ht⟩,cA⟩;have Ht:Hid (t=true↔∀i,i<p.hn->zJZ p i):=ht;have eA:=zA hb cA;clear ht cA y0 y1 y2 y3;go_wp2;go_ret;refine⟨⟨t,rfl,Ht.out.trans ⟨fun h=>?_,fun h=>?_⟩⟩,eA⟩
    ·exact(zGa p).1 ⟨by omega,by omega,aA.out,h⟩
    ·exact((zGa p).2 h).2.2.2
theorem zDq.some(n:Nat)(f:Nat->zN)(x:Int):∃ps pb,zDq n f x ps pb:=by
 by_cases h:0<=x/\x<n/\¬zAO (f x.toNat)
 ·exact⟨x,(f x.toNat).birth,Or.inl ⟨h.1,h.2.1,h.2.2,rfl,rfl⟩⟩
 ·exact⟨0,0,Or.inr ⟨h,rfl,rfl⟩⟩
theorem zIE(v:Value)(n lo hi:Nat)(f:Nat->zN)(xs xb:Int)(w:World)(h1:zA3 w lo hi v n f) :
  Calls Tryz.prog 160 #[v,.agg #[.int .i64 xs,.int .i64 xb]] w fun e w'=>zL (¬zMH xs xb 0 0/\zDq n f xs xs xb) e/\Below w.heap.size w w':=by
 have Hi:Hid (zA3 w lo hi v n f):=h1;obtain⟨m1,a,c,rfl,mc,g1⟩:=h1;clear g1;have ha:=zD w (.cells #[.int .i64 xs,.int .i64 xb] 38);have Hx:Hid (zAT (w.alloc (.cells #[.int .i64 xs,.int .i64 xb] 38)) w.heap.size (.int .i64 xs) (.int .i64 xb)):=zAT.new _ _ _ _;by_cases hz:xs=0/\xb=0
 ·obtain⟨rfl,rfl⟩:=hz;go_enter Tryz.func160,Tryz.ntmps160;go_wp2_with fail
  go_quiet (fail)
  go_wp2;go_ret;exact⟨zL.no fun h=>h.1 ⟨rfl,rfl⟩,zCx ha _⟩
 ·have HZ:Hid (¬zMH xs xb 0 0):=hz;have e0:(xs == 0)=false\/(xs == 0)=true/\(xb == 0)=false:=by
   by_cases h:xs=0
   ·right;refine⟨by simp[h],?_⟩;have:xb≠0:=fun h'=>hz ⟨h,h'⟩
    simp[this]
   ·left;simp[h]
  clear hz;obtain⟨bA,dA,h0⟩:=zDq.some n f xs;have H0:Hid (zDq n f xs bA dA):=h0;clear h0;by_cases hq:xs=bA/\xb=dA
  ·obtain⟨rfl,rfl⟩:=hq;rcases e0 with e0 | ⟨e0,e1⟩
   all_goals
    go_enter Tryz.func160,Tryz.ntmps160;go_wp2_with fail;go_region_held3 (fun w'=>w'.cell? ⟨w.heap.size,0,none⟩=some (.int .i64 xs)/\w'.cell? ⟨w.heap.size,1,none⟩=some (.int .i64 xb)) (go_keep)
     (first | (go_at_call 156;refine(zIL _ n lo hi f _ _ ?_).mono ?_;(exact(Hi.out.zeF ha).zeF ((Below.refl _ _).drew));rintro e w1 ⟨⟨ps,pb,rfl,hp⟩,cA⟩;obtain⟨rfl,rfl⟩:=H0.out.uniq hp;clear hp;have aA:=qF cA;have z0:=(Hx.out.zeF aA).1.1;have z1:=(Hx.out.zeF aA).2.1))
    have eA:=zA ha aA;clear cA aA z0 z1;go_wp2;go_ret;exact⟨zL.yes ⟨HZ.out,H0.out⟩,eA⟩
  ·have HQ:Hid (¬(xs=bA/\xb=dA)):=hq;have e4:(xs == bA)=false\/(xs == bA)=true/\(xb == dA)=false:=by
    by_cases h:xs=bA
    ·right;refine⟨by simp[h],?_⟩;have:xb≠dA:=fun h'=>hq ⟨h,h'⟩
     simp[this]
    ·left;simp[h]
   clear hq;rcases e0 with e0 | ⟨e0,e1⟩
   all_goals
    rcases e4 with e4 | ⟨e4,e5⟩
    all_goals
     go_enter Tryz.func160,Tryz.ntmps160;go_wp2_with fail;go_region_held3 (fun w'=>w'.cell? ⟨w.heap.size,0,none⟩=some (.int .i64 xs)/\w'.cell? ⟨w.heap.size,1,none⟩=some (.int .i64 xb)) (go_keep)
      (first | (go_at_call 156;refine(zIL _ n lo hi f _ _ ?_).mono ?_;(exact(Hi.out.zeF ha).zeF ((Below.refl _ _).drew));rintro e w1 ⟨⟨ps,pb,rfl,hp⟩,cA⟩;obtain⟨rfl,rfl⟩:=H0.out.uniq hp;clear hp;have aA:=qF cA;have z0:=(Hx.out.zeF aA).1.1;have z1:=(Hx.out.zeF aA).2.1))
     have eA:=zA ha aA;clear cA aA z0 z1;go_wp2;go_ret;refine⟨zL.no fun h=>?_,eA⟩;obtain⟨q0,q1⟩:=h.2.uniq H0.out;exact HQ.out ⟨q0,q1⟩
theorem zIF{p:zF}{xs xb:Int}(hR:zg p):(¬zMH xs xb 0 0/\zDq p.n p.s xs xs xb)↔qp p xs xb:=by
 constructor
 ·rintro⟨h,h1 | ⟨_,h2,h3⟩⟩
  ·obtain⟨a,b,c,_,e⟩:=h1;have:=zMk (hR.2.1 xs.toNat (by omega)) c;exact⟨by omega,a,b,e.symm⟩
  ·exact absurd ⟨h2,h3⟩ h
 ·rintro⟨a,b,c,d⟩;refine⟨fun h=>by have:=h.2;omega,Or.inl ⟨b,c,fun hf=>?_,rfl,d.symm⟩⟩;have:=zMm hf;omega
def Nil(xs xb:Int):Prop:=xs=0/\xb=0
instance (xs xb:Int):Decidable (Nil xs xb):=inferInstanceAs (Decidable (xs=0/\xb=0))
def one(xs xb:Int):List (Int×Int):=if Nil xs xb then [] else [(xs,xb)]
def kidsUp(ks kb:Nat->Int):Nat->List (Int×Int)
 | 0=>[]
 | k+1=>kidsUp ks kb k ++ one (ks k) (kb k)
def qJ(s:zN)(i:Nat):Int:=zj s (i*2)
def yZ(s:zN)(i:Nat):Int:=zj s (i*2+1)
def zSG(s:zN):List (Int×Int):=kidsUp (qJ s) (yZ s) 8
def zHA(p:zF)(xs xb:Int):List (Int×Int):=if Nil xs xb then [] else(xs,xb) :: zSG (p.s xs.toNat)
def zCR(p:zF)(s:zN):Nat->List (Int×Int)
 | 0=>[]
 | k+1=>zCR p s k ++ zHA p (qJ s k) (yZ s k)
def zM(p:zF)(rs rb:Int):List (Int×Int):=if Nil rs rb then [] else(rs,rb) :: zCR p (p.s rs.toNat) 8
theorem zDZ{s:zN}(h:s.kn=8){i:Nat}(hi:i<8):qJ s i=s.ks i:=by
 unfold qJ zj;rw[show i*2 / 2=i by omega,if_pos (by omega),if_pos (by omega)]
theorem zDY{s:zN}(h:s.kn=8){i:Nat}(hi:i<8):yZ s i=s.kb i:=by
 unfold yZ zj;rw[show(i*2+1) / 2=i by omega,if_pos (by omega),if_neg (by omega)]
theorem zU9{s:zN}(h:s.kn=0)(i:Nat):qJ s i=0:=by
 unfold qJ zj;rw[if_neg (by omega)]
theorem zU8{s:zN}(h:s.kn=0)(i:Nat):yZ s i=0:=by
 unfold yZ zj;rw[if_neg (by omega)]
theorem zbJ{xs xb:Int}{x:Int×Int}:x∈one xs xb↔x=(xs,xb)/\¬Nil xs xb:=by
 unfold one;by_cases h:Nil xs xb
 ·rw[if_pos h];simp[h]
 ·rw[if_neg h];simp[h]
theorem zFa{ks kb:Nat->Int}{x:Int×Int}:∀{k:Nat},x∈kidsUp ks kb k↔∃i,i<k/\x=(ks i,kb i)/\¬Nil (ks i) (kb i)
 | 0=>by simp[kidsUp]
 | k+1=>by
  rw[kidsUp,List.mem_append,zFa,zbJ];constructor
  ·rintro(⟨i,hi,h⟩ | h)
   ·exact⟨i,by omega,h⟩
   ·exact⟨k,by omega,h⟩
  ·rintro⟨i,hi,h⟩;by_cases e:i=k
   ·subst e;exact Or.inr h
   ·exact Or.inl ⟨i,by omega,h⟩
theorem zGU{p:zF}{xs xb:Int}{x:Int×Int}:x∈zHA p xs xb↔¬Nil xs xb/\(x=(xs,xb)\/x∈zSG (p.s xs.toNat)):=by
 unfold zHA;by_cases h:Nil xs xb
 ·rw[if_pos h];simp[h]
 ·rw[if_neg h];simp[h]
theorem zFG{p:zF}{s:zN}{x:Int×Int}:∀{k:Nat},x∈zCR p s k↔∃i,i<k/\x∈zHA p (qJ s i) (yZ s i)
 | 0=>by simp[zCR]
 | k+1=>by
  rw[zCR,List.mem_append,zFG];constructor
  ·rintro(⟨i,hi,h⟩ | h)
   ·exact⟨i,by omega,h⟩
   ·exact⟨k,by omega,h⟩
  ·rintro⟨i,hi,h⟩;by_cases e:i=k
   ·subst e;exact Or.inr h
   ·exact Or.inl ⟨i,by omega,h⟩
theorem zC3(ks kb:Nat->Int):∀k,(kidsUp ks kb k).length<=k
 | 0=>Nat.le_refl _
 | k+1=>by
  have:=zC3 ks kb k;unfold kidsUp one;split<;>simp<;>omega
theorem zSS(p:zF)(xs xb:Int):(zHA p xs xb).length<=9:=by
 unfold zHA;have:=zC3 (qJ (p.s xs.toNat)) (yZ (p.s xs.toNat)) 8;split
 ·simp
 ·show(zSG _).length+1<=9;unfold zSG;omega
theorem zIT(p:zF)(s:zN):∀k,(zCR p s k).length<=9*k
 | 0=>Nat.le_refl _
 | k+1=>by
  have:=zIT p s k;have:=zSS p (qJ s k) (yZ s k);unfold zCR;rw[List.length_append];omega
theorem qx(p:zF)(rs rb:Int):(zM p rs rb).length<=73:=by
 unfold zM;have:=zIT p (p.s rs.toNat) 8;split
 ·simp
 ·show(zCR _ _ _).length+1<=73;omega
def zIw(p:zF)(xs xb:Int):Prop:=qp p xs xb/\0<(p.s xs.toNat).kn/\¬Has p.hn p.h xs
def zP2(p:zF)(xs xb:Int):Prop:=qp p xs xb/\(p.s xs.toNat).kn=0/\¬Has p.hn p.h xs
def zbp(p:zF)(s:zN):Prop:=(∀i,i<8->Nil (qJ s i) (yZ s i)\/zP2 p (qJ s i) (yZ s i))/\∃i,i<8/\¬Nil (qJ s i) (yZ s i)
def zOe(p:zF)(s:zN)(i:Nat):Prop:=Nil (qJ s i) (yZ s i)\/(zIw p (qJ s i) (yZ s i)/\zbp p (p.s (qJ s i).toNat))
def zCr(l:List (Int×Int)):List Int:=l.map Prod.fst
def zbu(p:zF)(s:zN):Prop:=(∀i,i<8->zOe p s i)/\∃i,i<8/\¬Nil (qJ s i) (yZ s i)
def za(p:zF)(rs rb:Int):Prop:=Nil rs rb\/(zIw p rs rb/\zbu p (p.s rs.toNat)/\(zCr (zM p rs rb)).Nodup)
def yf(p:zF)(rs rb:Int):Prop:=zg p/\za p rs rb
def zP6(p:zF)(s:zN):Prop:=(∃i,i<8/\¬Nil (qJ s i) (yZ s i))/\∀i,i<8->Nil (qJ s i) (yZ s i)\/zLk (p.s (qJ s i).toNat)
def zP5(p:zF)(s:zN):Prop:=(∃i,i<8/\¬Nil (qJ s i) (yZ s i))/\∀i,i<8->Nil (qJ s i) (yZ s i)\/zP6 p (p.s (qJ s i).toNat)
def zXk(p:zF)(l:List (Int×Int)):Prop:=l.Nodup/\∀x,x∈l->¬Has p.hn p.h x.1
def zQC(p:zF)(rs rb:Int):Prop:=Nil rs rb\/(qp p rs rb/\zP5 p (p.s rs.toNat)/\zXk p (zM p rs rb))
theorem zAg{p:zF}{xs xb:Int}(hR:zg p)(h:qp p xs xb):zDp p (p.s xs.toNat):=by
 obtain⟨h1,h2,h3,h4⟩:=h;rcases hR.2.1 xs.toNat (by omega)with hf | hf
 ·have:=hf.1;omega
 ·exact hf
theorem zJu{p:zF}{s:zN}(h:zDp p s):s.kn=0\/s.kn=8:=by
 rcases h.2 with h | h
 ·exact Or.inl h.1
 ·exact Or.inr h.1
theorem zKz{p:zF}{xs xb:Int}(hR:zg p)(h:qp p xs xb):(p.s xs.toNat).kn=0\/(p.s xs.toNat).kn=8:=zJu (zAg hR h)
theorem zC2{p:zF}{s:zN}(h:zDp p s){i:Nat}(hi:i<8)(hn:¬Nil (qJ s i) (yZ s i)):qp p (qJ s i) (yZ s i)/\yZ s i<=s.birth:=by
 rcases h.2 with h2 | h2
 ·exact absurd ⟨zU9 h2.1 i,zU8 h2.1 i⟩ hn
 ·rw[zDZ h2.1 hi,zDY h2.1 hi]at hn ⊢;rcases h2.2.2 i (by omega)with h3 | h3
  ·exact absurd h3 hn
  ·exact h3
theorem zZo{p:zF}{xs xb:Int}(hR:zg p)(h:qp p xs xb):zLk (p.s xs.toNat)↔(p.s xs.toNat).kn=0:=by
 have hf:=zAg hR h;constructor
 ·exact fun h=>h.2.1
 ·intro h0;rcases hf.2 with h2 | h2
  ·exact⟨hf.1,h2⟩
  ·omega
theorem zSw{s:zN}(h:s.kn=0\/s.kn=8)(he:∃i,i<8/\¬Nil (qJ s i) (yZ s i)):s.kn=8:=by
 rcases h with h | h
 ·obtain⟨i,_,hi⟩:=he;exact absurd ⟨zU9 h i,zU8 h i⟩ hi
 ·exact h
theorem zFy{p:zF}{rs rb:Int}(hR:zg p)(h:qp p rs rb):∀x,x∈zM p rs rb->qp p x.1 x.2/\x.2<=rb:=by
 intro x hx;unfold zM at hx;split at hx
 ·simp at hx
 ·rw[List.mem_cons,zFG]at hx;rcases hx with rfl | ⟨i,hi,hx⟩
  ·exact⟨h,by simp⟩
  ·have hf:=zAg hR h;have bA:(p.s rs.toNat).birth=rb:=h.2.2.2;obtain⟨hn,hx⟩:=zGU.1 hx;have hk:=zC2 hf hi hn;rcases hx with rfl | hx
   ·exact⟨hk.1,by rw[<-bA];exact hk.2⟩
   ·obtain⟨j,hj,rfl,dA⟩:=zFa.1 hx;have cA:=zAg hR hk.1;have aA:=zC2 cA hj dA;have e:(p.s (qJ (p.s rs.toNat) i).toNat).birth=yZ (p.s rs.toNat) i:=hk.1.2.2.2;have:=hk.2;have:=aA.2;exact⟨aA.1,by show yZ _ j<=rb;omega⟩
theorem zKv{p:zF}{l:List (Int×Int)}(h:∀x,x∈l->qp p x.1 x.2):(zCr l).Nodup↔l.Nodup:=by
 unfold zCr List.Nodup;rw[List.pairwise_map];constructor
 ·exact fun hp=>hp.imp (fun aA e=>aA (by rw[e]))
 ·intro hp;refine List.Pairwise.imp_of_mem ?_ hp;intro a b ha hb aA e;apply aA;have h1:=(h a ha).2.2.2;have h2:=(h b hb).2.2.2;rw[e]at h1;obtain⟨a1,a2⟩:=a;obtain⟨b1,b2⟩:=b;simp only[Prod.mk.injEq];exact⟨e,by simp only at h1 h2 e;rw[<-h1,<-h2]⟩
theorem zKQ{p:zF}{rs rb:Int}(hR:zg p):zQC p rs rb↔za p rs rb:=by
 by_cases hz:Nil rs rb
 ·exact⟨fun _=>Or.inl hz,fun _=>Or.inl hz⟩
 have bA:(rs,rb)∈zM p rs rb:=by unfold zM;rw[if_neg hz];simp
 have cA:∀i,i<8->¬Nil (qJ (p.s rs.toNat) i) (yZ (p.s rs.toNat) i)->(qJ (p.s rs.toNat) i,yZ (p.s rs.toNat) i)∈zM p rs rb:=fun i hi hn=>by
  unfold zM;rw[if_neg hz,List.mem_cons,zFG];exact Or.inr ⟨i,hi,zGU.2 ⟨hn,Or.inl rfl⟩⟩
 have dA:∀i,i<8->¬Nil (qJ (p.s rs.toNat) i) (yZ (p.s rs.toNat) i)->∀x,x∈zSG (p.s (qJ (p.s rs.toNat) i).toNat)->x∈zM p rs rb:=fun i hi hn x hx=>by
  unfold zM;rw[if_neg hz,List.mem_cons,zFG];exact Or.inr ⟨i,hi,zGU.2 ⟨hn,Or.inr hx⟩⟩
 constructor
 ·rintro(h | ⟨hP,⟨he,hS⟩,hA⟩)
  ·exact Or.inl h
  ·right;have hf:=zAg hR hP;have kA:=zSw (zJu hf) he;refine⟨⟨hP,by omega,hA.2 _ bA⟩,⟨fun i hi=>?_,he⟩,(zKv (fun x hx=>(zFy hR hP x hx).1)).2 hA.1⟩;by_cases hn:Nil (qJ (p.s rs.toNat) i) (yZ (p.s rs.toNat) i)
   ·exact Or.inl hn
   ·right;have hk:=zC2 hf hi hn;have fA:=zAg hR hk.1;obtain⟨eA,gA⟩:zP6 p (p.s (qJ (p.s rs.toNat) i).toNat):=by
     rcases hS i hi with h | h
     ·exact absurd h hn
     ·exact h
    have jA:=zSw (zJu fA) eA;refine⟨⟨hk.1,by omega,hA.2 _ (cA i hi hn)⟩,fun j hj=>?_,eA⟩;by_cases aA:Nil (qJ (p.s (qJ (p.s rs.toNat) i).toNat) j) (yZ (p.s (qJ (p.s rs.toNat) i).toNat) j)
    ·exact Or.inl aA
    ·right;have iA:=zC2 fA hj aA;refine⟨iA.1,?_,hA.2 _ (dA i hi hn _ (zFa.2 ⟨j,hj,rfl,aA⟩))⟩;rcases gA j hj with h | h
     ·exact absurd h aA
     ·exact h.2.1
 ·rintro(h | ⟨hN,⟨hM,he⟩,hD⟩)
  ·exact Or.inl h
  ·right;have hP:=hN.1;have hf:=zAg hR hP;have held:∀x,x∈zM p rs rb->¬Has p.hn p.h x.1:=fun x hx=>by
    unfold zM at hx;rw[if_neg hz,List.mem_cons,zFG]at hx;rcases hx with rfl | ⟨i,hi,hx⟩
    ·exact hN.2.2
    ·obtain⟨hn,hx⟩:=zGU.1 hx;rcases hM i hi with h | ⟨h1,h2⟩
     ·exact absurd h hn
     ·rcases hx with rfl | hx
      ·exact h1.2.2
      ·obtain⟨j,hj,rfl,aA⟩:=zFa.1 hx;rcases h2.1 j hj with h | h
       ·exact absurd h aA
       ·exact h.2.2
   refine⟨hP,⟨he,fun i hi=>?_⟩,(zKv (fun x hx=>(zFy hR hP x hx).1)).1 hD,held⟩;rcases hM i hi with h | ⟨h1,h2,h3⟩
   ·exact Or.inl h
   ·refine Or.inr ⟨h3,fun j hj=>?_⟩;rcases h2 j hj with h | h
    ·exact Or.inl h
    ·exact Or.inr ((zZo hR h.1).2 h.2.1)
set_option linter.unusedSimpArgs false
set_option maxRecDepth 20000
set_option maxHeartbeats 1600000
theorem zF5{F G:Nat->Nat->Tr}:yX F 0 G=G:=by
 funext p q;simp[yX]
theorem zE6{a b:Nat->Int}:(fun p q=>(ptrsT a b p q).nt)=ptrsT a b:=by
 funext p q;unfold ptrsT;split<;>rfl
theorem zVi{a:Nat->Int}:(fun p q=>(yT a p q).nt)=yT a:=rfl
def zFj{α : Type}(enc:α->Nat->Tr)(d:α)(l:List α):Nat->Nat->Tr:=fun i c=>enc (l[i]?.getD d) c
section
variable {α : Type} {enc : α -> Nat -> Tr} {d : α} {l m : List α} {fl : Fl} {k : Nat}
theorem zDS(h:l=m):TrE (.s fl k l.length (zFj enc d l)) (.s fl k m.length (zFj enc d m)):=h▸TrE.refl _
theorem zKJ{F:Nat->Nat->Tr}(h:m = []):TrE (.s fl k 0 F) (.s fl k m.length (zFj enc d m)):=by
 subst h;exact⟨.inl rfl,rfl,rfl,fun i j hi=>by omega⟩
theorem zba{F:Nat->Nat->Tr}{e:Nat}{x:List α}(he:e=x.length)(hF:∀i,(h:i<x.length)->∀j,j<k->F i j=enc x[i] j)(h:l ++ x=m):TrE (.s fl k (l.length+e) (yX (zFj enc d l) l.length F)) (.s fl k m.length (zFj enc d m)):=by
 subst h he;refine⟨.inl rfl,rfl,by simp,fun i j hi hj=>TrE.of_eq ?_⟩;by_cases hl:i<l.length
 ·simp[yX,zFj,hl,List.getElem?_append_left hl]
 ·simp only[yX,zFj,if_neg hl];rw[hF (i - l.length) (by omega) j hj,List.getElem?_append_right (by omega),List.getElem?_eq_getElem (by omega)];rfl
theorem zDR{ts:List Tr}{x:α}(ht:∀j,j<k->(ts[j]?.getD (.v (.bool false))).nt=enc x j)(h:l ++ [x]=m):TrE (.s fl k (l.length+1) (yX (zFj enc d l) l.length (fun p q=>(ts[p*k+q]?.getD (.v (.bool false))).nt))) (.s fl k m.length (zFj enc d m)):=by
 refine zba (x:=[x]) rfl (fun i hi j hj=>?_) h;have h0:i=0:=by simpa using hi
 subst h0;simpa using ht j hj
theorem zZ6{n:Nat}(h:∀x j,j<k->(enc x j).kept):(Tr.s .o k n (zFj enc d l)).kept:=⟨by simp,fun i j _ hj=>h _ j hj⟩
end
def encP(x:Int×Int):Nat->Tr
 | 0=>.v (.int .i64 x.1)
 | 1=>.v (.int .i64 x.2)
 | _=>.v (.bool false)
abbrev ptL(l:List (Int×Int)):Nat->Nat->Tr:=zFj encP (0,0) l
theorem zdC(l:List (Int×Int)):ptL l=ptrsT (fun i=>(l[i]?.getD (0,0)).1) (fun i=>(l[i]?.getD (0,0)).2):=by
 funext i c
 match c with
 | 0=>rfl
 | 1=>rfl
 | c+2=>rfl
theorem zE2{a b:Int}:∀j,j<2->([Tr.v (Value.int .i64 a),Tr.v (Value.int .i64 b)][j]?.getD (.v (.bool false))).nt=encP (a,b) j
 | 0,_=>rfl
 | 1,_=>rfl
theorem zC1{n:Nat}{l:List (Int×Int)}:(Tr.s .o 2 n (ptL l)).kept:=zZ6 fun x j _=>by unfold encP;split<;>trivial
theorem zFE{n:Nat}{a b:Nat->Int}:(Tr.s .o 2 n (ptrsT a b)).kept↔True:=by
 refine⟨fun _=>trivial,fun _=>⟨by simp,fun i j _ _=>?_⟩⟩;unfold ptrsT;split<;>trivial
attribute [local go_sem] qg List.map_cons List.map_nil Tr.cv yv qT yF yD yu yr yq yC zBD zBF zBE zBA zBC zBB zCc zCe zCd qY zt qZ zu qR qQ qf zAL zp zq yL qW tmpsOf zAy yK qV zA9 yz yx yw zAA yy stpP opds opd opdC kap zAS qS zo coreU bin zAl zCO get put dlO fgt zBP zBI zBM zBN tyT yp yo Op.operands Call.operands evLoad evLen evStore evAlloc zAn and_true true_and List.append_nil List.nil_append List.cons_append Ret resCv zCB yY cellM zBl zCI qh StW StR hpT hpO hpV hpA hpL hpC sg nin zCT bdO tmW obW AvE CsE CvE Av.tup Av.ids Cv.ids inD ObE Ob.ids TrE.refl qU yH yI qb qd qe zr zf zd zAC zBe zCH zBG evCall argL argOf qq outOb obO yU qK cvO tot Tr.own rid partsOf fillC zU zBj frz frz1 evBuildSlice zc trs Cv.tr evSlice Option.toArray_none Option.toArray_some evMakeSlice evAppend dstOf srcOf zA7 zBO zBL zBJ zBK ikT yB yA qz qy RetP RetN zBs qP evLd evSt evStoreH zAe evAppendM evAppendT tlOf mvOf rowE shp evTake oOf evC evCallP evCallN evCallO unlast zAX zA6 zAZ argsF zCS qu pmC varT vT evField evConv dB0 Option.bind_some Option.bind_none Option.map_some Option.map_none Option.isSome_some Option.isSome_none
abbrev slO(s:zN):Bool×List Tr:=(true,[.v (.int .i64 s.birth),.s .o 2 s.kn (ptrsT s.ks s.kb),.v (.string s.data)])
noncomputable def zcT:zX:=qk (fun s:zN=>[slT s]) (fun s=>s.kn<=1000000) (fun s=>[slO s])
theorem zZB(s:zN):zcT [slT s]=some (s.kn<=1000000,[slO s]):=zO (fun l=>zO3 (nth l 0 0) (nth l 0 1) (nth l 0 2)) (fun _=>rfl) s
theorem zT1:zy Tryz.prog 123 zcT:=by
 refine zQ qA GOk.nil zz Tryz.func123 rfl Tryz.ntmps123 Tryz.results123 3 ?_;rintro s hn;replace hn:s.kn<=1000000:=hn;refine⟨by simp,?_⟩;simp[go_sem,zF5,zE6,zFE];omega
noncomputable def zdk:zX:=qk (fun q:Nat×(Nat->Int)×(Nat->Int)=>[(false,[.s .b 2 q.1 (ptrsT q.2.1 q.2.2)])]) (fun q=>q.1<=1000000) (fun q=>[(false,[.s .o 2 (kidsUp q.2.1 q.2.2 q.1).length (ptL (kidsUp q.2.1 q.2.2 q.1))])])
theorem zVN(n:Nat)(f g:Nat->Int):zdk [(false,[.s .b 2 n (ptrsT f g)])]=some (n<=1000000,[(false,[.s .o 2 (kidsUp f g n).length (ptL (kidsUp f g n))])]):=zO (fun l=>(zF8 (nth l 0 0),fun i=>qM (zCh (nth l 0 0) i 0),fun i=>qM (zCh (nth l 0 0) i 1))) (fun _=>rfl) (n,f,g)
theorem zPP:zy Tryz.prog 191 zdk:=by
 refine zQ qA (GOk.cons zEI (zG Tryz.func74 rfl rfl) GOk.nil) zz Tryz.func191 rfl Tryz.ntmps191 Tryz.results191 5 ?_;rintro⟨n,f,g⟩ hn;replace hn:n<=1000000:=hn;refine⟨by simp,?_⟩;simp[go_sem];refine yE (fun k:Nat=>⟨[(3,true,.m false [.h 7]),(0,true,.m false [.s .b 2 n (ptrsT f g)]),(4,true,.i k)],[(7,.row 2 (kidsUp f g k).length (ptL (kidsUp f g k)))]⟩) (fun k=>n - k) (fun k=>k<=n) 0 (by simp[go_sem,kidsUp];exact zKJ rfl) (by simp) ?_;rintro k hk;have hl:=zC3 f g k;simp[go_sem,qB (show k<=1000000000 by omega),zC6];refine⟨fun aA=>⟨aA,fun h=>⟨aA,by omega,k+1,by omega,by omega,by omega,zDR zE2 (by simp[kidsUp,one,Nil,show ¬(f k=0/\g k=0)from fun e=>h e.1 e.2])⟩,fun h1 h2=>⟨k+1,by omega,by omega,by omega,zDS (by simp[kidsUp,one,Nil,h1,h2])⟩⟩,fun aA=>?_⟩;cases (show k=n from by omega);exact⟨zDS rfl,zC1⟩
noncomputable def zcV:zX:=qk (fun q:Nat×(Nat->Int)×(Nat->Int)=>[(false,[.s .b 2 q.1 (ptrsT q.2.1 q.2.2)])]) (fun q=>q.1<=1000000) (fun q=>bR (kidsUp q.2.1 q.2.2 q.1≠[]))
theorem zZC(n:Nat)(f g:Nat->Int):zcV [(false,[.s .b 2 n (ptrsT f g)])]=some (n<=1000000,bR (kidsUp f g n≠[])):=zO (fun l=>(zF8 (nth l 0 0),fun i=>qM (zCh (nth l 0 0) i 0),fun i=>qM (zCh (nth l 0 0) i 1))) (fun _=>rfl) (n,f,g)
theorem zT4:zy Tryz.prog 189 zcV:=by
 refine zQ qA (GOk.cons zPP (zG Tryz.func191 rfl rfl) GOk.nil) zz Tryz.func189 rfl Tryz.ntmps189 Tryz.results189 3 ?_;rintro⟨n,f,g⟩ hn;replace hn:n<=1000000:=hn;refine⟨by simp,?_⟩;simp[go_sem,zVN,hn];exact List.length_pos_iff
noncomputable def zVM:zX:=qk (fun q:Int=>[iT q]) (fun _=>True) (fun q=>bR (0<=q/\q<=63))
theorem zG8(x:Int):zVM [iT x]=some (True,bR (0<=x/\x<=63)):=zO (fun l=>qM (nth l 0 0)) (fun _=>rfl) x
theorem zJ3:zy Tryz.prog 186 zVM:=by
 refine zQ qA (GOk.cons zHm (zG Tryz.func105 rfl rfl) GOk.nil) zz Tryz.func186 rfl Tryz.ntmps186 Tryz.results186 3 ?_;rintro x -;refine⟨by simp,?_⟩;simp[go_sem,zNJ]
noncomputable def zcH:zX:=qk (fun q:zF×Int×Int=>[poT q.1.n q.1.s q.1.hn q.1.h,pT q.2.1 q.2.2]) (fun q=>q.1.n<=1000000/\q.1.hn<=1000000) (fun q=>bR (zIw q.1 q.2.1 q.2.2))
theorem zSI(p:zF)(a b:Int):zcH [poT p.n p.s p.hn p.h,pT a b]=some (p.n<=1000000/\p.hn<=1000000,bR (zIw p a b)):=zO (fun l=>(zEu (nth l 0 0) (nth l 0 1),qM (nth l 1 0),qM (nth l 1 1))) (fun _=>rfl) (p,a,b)
theorem zT2:zy Tryz.prog 107 zcH:=by
 refine zQ qA (GOk.cons zG3 (zG Tryz.func150 rfl rfl) (GOk.cons zGQ (zG Tryz.func62 rfl rfl) GOk.nil)) zz Tryz.func107 rfl Tryz.ntmps107 Tryz.results107 5 ?_;rintro⟨p,a,b⟩ ⟨hn,hm⟩;replace hn:p.n<=1000000:=hn;replace hm:p.hn<=1000000:=hm;refine⟨by simp,?_⟩;simp[go_sem,zJE,zIH,hn,hm];exact⟨fun h=>⟨h.2.1,h.2.2.1⟩,and_assoc⟩
noncomputable def zcM:zX:=qk (fun q:zF×Int×Int=>[poT q.1.n q.1.s q.1.hn q.1.h,pT q.2.1 q.2.2]) (fun q=>q.1.n<=1000000/\q.1.hn<=1000000) (fun q=>bR (zP2 q.1 q.2.1 q.2.2))
theorem zY2(p:zF)(a b:Int):zcM [poT p.n p.s p.hn p.h,pT a b]=some (p.n<=1000000/\p.hn<=1000000,bR (zP2 p a b)):=zO (fun l=>(zEu (nth l 0 0) (nth l 0 1),qM (nth l 1 0),qM (nth l 1 1))) (fun _=>rfl) (p,a,b)
theorem zT3:zy Tryz.prog 108 zcM:=by
 refine zQ qA (GOk.cons zG3 (zG Tryz.func150 rfl rfl) (GOk.cons zGQ (zG Tryz.func62 rfl rfl) GOk.nil)) zz Tryz.func108 rfl Tryz.ntmps108 Tryz.results108 5 ?_;rintro⟨p,a,b⟩ ⟨hn,hm⟩;replace hn:p.n<=1000000:=hn;replace hm:p.hn<=1000000:=hm;refine⟨by simp,?_⟩;simp[go_sem,zJE,zIH,hn,hm];exact⟨fun h=>⟨h.2.1,h.2.2.1⟩,and_assoc⟩
def zEs(bs:Nat)(kb:Nat->Nat)(n:Nat)(f:Nat->zN)(k:Nat):Prop:=(0<n/\k=bs)\/∃i,i<n/\0<(f i).kn/\k=kb i
def zAM(w:World)(lo hi:Nat)(v0 v1:Value)(p:zF):Prop:=
 ∃(bs hb:Nat) (kb:Nat->Nat) (kv:Nat->Value),zCL w bs kb kv v0 p.n p.s/\zGH kb p.n p.s/\zDU w hb v1 p.hn p.h/\(0<p.hn->¬zEs bs kb p.n p.s hb)/\
  ∀k,zEs bs kb p.n p.s k\/(0<p.hn/\k=hb)->lo<=k/\k<hi
theorem zAM.at{w:World}{lo hi:Nat}{v0 v1:Value}{p:zF}(h:zAM w lo hi v0 v1 p):zCG w lo hi v0 v1 p:=by
 obtain⟨bs,hb,kb,kv,h1,h2,h3,h4,h5⟩:=h;exact⟨h1.at fun h0=>⟨h5 _ (Or.inl (Or.inl ⟨h0,rfl⟩)),fun i hi h=>h5 _ (Or.inl (Or.inr ⟨i,hi,h,rfl⟩))⟩,h3.at fun h0=>h5 _ (Or.inr ⟨h0,rfl⟩)⟩
theorem zAM.zeF{w w':World}{lo hi:Nat}{v0 v1:Value}{p:zF}(h:zAM w lo hi v0 v1 p)(t:Below w.heap.size w w'):zAM w' lo hi v0 v1 p:=by
 obtain⟨bs,hb,kb,kv,h1,h2,h3,h4,h5⟩:=h;exact⟨bs,hb,kb,kv,h1.zeF t,h2,h3.zeF t,h4,h5⟩
theorem zAM.zeG{S:Nat->Prop}{w w':World}{lo hi:Nat}{v0 v1:Value}{p:zF}(h:zAM w lo hi v0 v1 p)(t:zJ S w w')(hs:∀k,S k->k<lo\/hi<=k):zAM w' lo hi v0 v1 p:=by
 obtain⟨bs,hb,kb,kv,h1,h2,h3,h4,h5⟩:=h;have out:∀k,zEs bs kb p.n p.s k\/(0<p.hn/\k=hb)->¬S k:=fun k hk hx=>by
  have a:=h5 k hk;have b:=hs k hx;omega
 exact⟨bs,hb,kb,kv,h1.zeG t (fun h0=>out _ (Or.inl (Or.inl ⟨h0,rfl⟩))) (fun i hi h=>out _ (Or.inl (Or.inr ⟨i,hi,h,rfl⟩))),h2,h3.zeG t (fun h0=>out _ (Or.inr ⟨h0,rfl⟩)),h4,h5⟩
theorem zAM.wide{w:World}{lo hi bA aA:Nat}{v0 v1:Value}{p:zF}(h:zAM w lo hi v0 v1 p)(h1:bA<=lo)(h2:hi<=aA):zAM w bA aA v0 v1 p:=by
 obtain⟨bs,hb,kb,kv,g1,g2,g3,g4,g5⟩:=h;exact⟨bs,hb,kb,kv,g1,g2,g3,g4,fun k hk=>by have:=g5 k hk;omega⟩
theorem zAM.zeQ{w:World}{lo hi:Nat}{v0 v1:Value}{p:zF}(h:zAM w lo hi v0 v1 p):∃a c a' c',v0 = .slice a p.n c/\v1 = .slice a' p.hn c':=by
 obtain⟨bs,hb,kb,kv,⟨_,a,c,h1,_⟩,h2,⟨_,a',c',h3,_,_⟩,h4,h5⟩:=h;exact⟨a,c,a',c',h1,h3⟩
theorem zCG.zeQ{w:World}{lo hi:Nat}{v0 v1:Value}{p:zF}(h:zCG w lo hi v0 v1 p):∃a c a' c',v0 = .slice a p.n c/\v1 = .slice a' p.hn c':=by
 obtain⟨⟨_,a,c,h1,_⟩,⟨_,a',c',h3,_⟩⟩:=h;exact⟨a,c,a',c',h1,h3⟩
def zad(p:zF)(w:World)(e:Ending)(w':World):Prop:=∃v0 v1,e = .returned (.agg #[v0,v1])/\zAM w' w.heap.size w'.heap.size v0 v1 p/\Below w.heap.size w w'
def zFh:zN:={birth:=0,kn:=0,ks:=fun _=>0,kb:=fun _=>0,data:=⟨#[]⟩}
def zEw(n:Nat):zF:={n:=n,s:=fun _=>zFh,hn:=0,h:=fun _=>0}
theorem zSt{bs:Nat}{kb:Nat->Nat}{n k:Nat}:zEs bs kb n (fun _=>zFh) k↔0<n/\k=bs:=by
 constructor
 ·rintro(h | ⟨i,_,h0,_⟩)
  ·exact h
  ·exact absurd h0 (by simp[zFh])
 ·exact Or.inl
theorem zZY{w:World}{lo hi g n:Nat}{v0:Value}(hn:n<=maxLen)(hv:∃a cap,v0 = .slice a n cap/\n<=cap/\(0<n->a=some ⟨g,0,none⟩/\lo<=g/\g<hi))
  (hc:∀i,i<n->zY w g (0+i*3) (.int .i64 0)/\zY w g (0+i*3+1) (.slice none 0 0)/\zY w g (0+i*3+2) (.string ⟨#[]⟩)) :
  zAM w lo hi v0 (.slice none 0 0) (zEw n):=by
 obtain⟨a,cap,rfl,aA,ha⟩:=hv;refine⟨g,0,fun _=>0,fun _=>.slice none 0 0,⟨hn,a,cap,rfl,aA,fun h0=>⟨0,(ha h0).1,fun i hi=>?_⟩⟩,fun i j _ _ _ h0 _=>absurd h0 (by simp[zEw,zFh]),⟨Nat.zero_le _,none,0,rfl,Nat.le_refl _,fun h=>absurd h (Nat.lt_irrefl _),fun h=>absurd h (Nat.lt_irrefl _)⟩,fun h=>absurd h (Nat.lt_irrefl _),?_⟩
 ·exact⟨(hc i hi).1,(hc i hi).2.1,(hc i hi).2.2,⟨Nat.zero_le _,none,0,rfl,Nat.le_refl _,fun h=>absurd h (Nat.lt_irrefl _)⟩,Nat.zero_le _,fun h=>absurd h (Nat.lt_irrefl _)⟩
 ·rintro k (h | h)
  ·obtain⟨h0,rfl⟩:=zSt.1 h;exact(ha h0).2
  ·exact absurd h.1 (Nat.lt_irrefl _)
def zCu(s:zN):Nat:=s.kn+s.data.size
def zBp(f:Nat->zN):Nat->Nat
 | 0=>0
 | k+1=>zBp f k+zCu (f k)
def qs(p:zF):Nat:=p.n+zBp p.s p.n+p.hn
theorem zSr(f:Nat->zN){j n:Nat}(h:j<n):zCu (f j)<=zBp f n:=by
 induction n with
 | zero=>omega
 | succ n ih=>
  show _<=zBp f n+zCu (f n);by_cases e:j=n
  ·subst e;omega
  ·have:=ih (by omega);omega
theorem zPL:(Tryz.prog.info? 2).map (fun i=>(i.zero,i.size,i.bytes))=some (some (.int .i64 0),1,8):=by kernel_rfl
theorem zWk:(Tryz.prog.info? 101).map (fun i=>(i.zero,i.size,i.bytes))=some (some (.agg #[.int .i64 0,.slice none 0 0,.string ⟨#[]⟩]),3,48):=by kernel_rfl
end Go.Proofs.YtjganmlaooofoaaGreatDoor
