/- A part of the proof. -/
import Derived.Test.YtbplmbafodlboaaGreatDoorC9
import Derived.Deep.OwnRows
set_option linter.unusedVariables false
set_option maxRecDepth 20000
set_option maxHeartbeats 4000000
namespace Go.Proofs.YtbplmbafodlboaaGreatDoor
open Go.RowKit
def zJr(n:Nat)(f:Nat->zM)(s:zM):Prop:=∀i,i<8->zCc n f s.birth (s.ks i) (s.kb i) (s.ks i) (s.kb i)
theorem zDc.uniq{n:Nat}{f:Nat->zM}{x ps pb bA aA:Int}(h:zDc n f x ps pb)(h':zDc n f x bA aA):ps=bA/\pb=aA:=by
 rcases h with⟨a,b,c,rfl,rfl⟩ | ⟨a,rfl,rfl⟩<;>rcases h' with⟨a',b',c',rfl,rfl⟩ | ⟨a',rfl,rfl⟩
 ·exact⟨rfl,rfl⟩
 ·exact absurd ⟨a,b,c⟩ a'
 ·exact absurd ⟨a',b',c'⟩ a
 ·exact⟨rfl,rfl⟩
theorem zCc.uniq{n:Nat}{f:Nat->zM}{b ks kb rs rb bA aA:Int}(h:zCc n f b ks kb rs rb)(h':zCc n f b ks kb bA aA):rs=bA/\rb=aA:=by
 obtain⟨ps,pb,hp,h⟩:=h;obtain⟨eA,dA,cA,h'⟩:=h';obtain⟨rfl,rfl⟩:=hp.uniq cA;rcases h with⟨a,rfl,rfl⟩ | ⟨a,rfl,rfl⟩<;>rcases h' with⟨a',rfl,rfl⟩ | ⟨a',rfl,rfl⟩
 ·exact⟨rfl,rfl⟩
 ·exact absurd a a'
 ·exact absurd a' a
 ·exact⟨rfl,rfl⟩
theorem zNy(g:Nat->Int)(k:Nat)(hk:k<8)(x y:Int):((yf g).setIfInBounds (k*2) (.int .i64 x)).setIfInBounds (k*2+1) (.int .i64 y)=yf (fun j=>if j=k*2 then x else if j=k*2+1 then y else g j):=by
 apply Array.ext_getElem?;intro i;rw[Array.getElem?_setIfInBounds,Array.getElem?_setIfInBounds];simp only[Array.size_setIfInBounds,yk];by_cases aA:i<16
 ·rw[zCu _ aA,zCu _ aA];by_cases e1:k*2+1=i
  ·subst e1;rw[if_pos rfl,if_pos (by omega),if_neg (by omega),if_pos rfl]
  ·rw[if_neg e1];by_cases e0:k*2=i
   ·subst e0;rw[if_pos rfl,if_pos (by omega),if_pos rfl]
   ·rw[if_neg e0,if_neg (by omega),if_neg (by omega)]
 ·have n1:(yf g)[i]?=none:=Array.getElem?_eq_none (by rw[yk];omega);have n2:(yf (fun j=>if j=k*2 then x else if j=k*2+1 then y else g j))[i]?=none:=Array.getElem?_eq_none (by rw[yk];omega);rw[n1,n2,if_neg (by omega),if_neg (by omega)]
theorem zON(g:Nat->Int)(k:Nat)(hk:k<8)(w:World):(Instr.index 215 (.agg (yf g)) (.int .i64 (k:Int))).run Tryz.prog w = .ok (.agg #[.int .i64 (g (k*2)),.int .i64 (g (k*2+1))]) w:=by
 rcases(by omega:k=0\/k=1\/k=2\/k=3\/k=4\/k=5\/k=6\/k=7)with rfl | rfl | rfl | rfl | rfl | rfl | rfl | rfl
 all_goals kernel_rfl
theorem zYU(g:Nat->Int)(k:Nat)(hk:k<8)(w:World):(part 70 (yf g) (k*2)).run Tryz.prog w = .ok (.agg #[.int .i64 (g (k*2)),.int .i64 (g (k*2+1))]) w:=by
 rcases(by omega:k=0\/k=1\/k=2\/k=3\/k=4\/k=5\/k=6\/k=7)with rfl | rfl | rfl | rfl | rfl | rfl | rfl | rfl
 all_goals kernel_rfl
theorem zZe(d:Nat)(a b c e:Int)(w:World):(Op.equalIn (d+2) 70 (.agg #[.int .i64 a,.int .i64 b]) (.agg #[.int .i64 c,.int .i64 e])).run Tryz.prog w = .ok (a == c && b == e) w:=by
 by_cases h1:a=c<;>by_cases h2:b=e
 all_goals simp[go_sem,h1,h2]
theorem zaJ(w:World):(sizeOf 70).run Tryz.prog w = .ok 2 w:=by kernel_rfl
theorem zOG{P:Program}(b:Nat->Bool)(F:Nat->Option Bool×Unit->Sem (ForInStep (Option Bool×Unit))):∀(L:List Nat) (w:World),(∀i∈L,∀s w,(F i s).run P w = .ok (if b i then .yield (none,())else .done (some false,())) w)->
  (forIn L (none,()) F).run P w = .ok (if L.all b then(none,())else(some false,())) w
 | [],w,_=>by simp[Sem.run_pure]
 | i :: L,w,hF=>by
  simp only[List.forIn_cons,Sem.run_bind,hF i (by simp),Result.andThen_ok,List.all_cons];by_cases hb:b i=true
  ·simp only[hb,if_true,Bool.true_and];exact zOG b F L w (fun j hj=>hF j (by simp[hj]))
  ·simp[hb,Sem.run_pure]
def zJI(g h:Nat->Int):Bool:=(List.range 8).all fun i=>g (i*2) == h (i*2) && g (i*2+1) == h (i*2+1)
theorem zJJ(g h:Nat->Int):zJI g h=true↔∀i,i<8->g (i*2)=h (i*2)/\g (i*2+1)=h (i*2+1):=by
 simp[zJI,List.all_eq_true]
theorem zOB(g h:Nat->Int)(d:Nat)(w:World):(Op.equalIn (d+3) 215 (.agg (yf g)) (.agg (yf h))).run Tryz.prog w = .ok (zJI g h) w:=by
 rw[Op.equalIn];simp only[Sem.run_bind,run_underlying zLj,Result.andThen_ok,zaJ];rw[Std.Legacy.Range.forIn_eq_forIn_range'];have e:=zOG (P:=Tryz.prog) (fun i=>g (i*2) == h (i*2) && g (i*2+1) == h (i*2+1)) (fun i (bA:Option Bool×Unit)=>do
      let __do_lift <-part 70 (yf g) (i*2)
      let __do_lift_1 <-part 70 (yf h) (i*2)
      let __do_lift <-Op.equalIn (d+2) 70 __do_lift __do_lift_1
      if (!__do_lift)=true then pure (ForInStep.done (some false,()))else pure (ForInStep.yield (none,()))) (List.range 8) w (fun i hi s w=>by
   have aA:i<8:=(by simpa using hi);simp only[Sem.run_bind,zYU _ i aA,Result.andThen_ok,zZe];cases (g (i*2) == h (i*2) && g (i*2+1) == h (i*2+1))<;>simp[Sem.run_pure])
 have e2:List.range' 0 (([:8]:Std.Legacy.Range).size) ([:8]:Std.Legacy.Range).step=List.range 8:=by rfl
 rw[e2,e];simp only[Result.andThen_ok];unfold zJI;cases ((List.range 8).all fun i=>g (i*2) == h (i*2) && g (i*2+1) == h (i*2+1))<;>simp[Sem.run_pure]
theorem zTu(g h:Nat->Int)(w:World):(binOp .eql 215 (.agg (yf g)) (.agg (yf h))).run Tryz.prog w = .ok (.bool (zJI g h)) w:=by
 rw[run_eql_struct,zOB g h 9997];rfl
theorem zUX(g h:Nat->Int)(w:World):(binOp .neq 215 (.agg (yf g)) (.agg (yf h))).run Tryz.prog w = .ok (.bool (!zJI g h)) w:=by
 rw[run_neq_struct,zOB g h 9997];rfl
theorem zNi(v v0 v1 v2:Value)(n lo hi oA lA:Nat)(f:Nat->zM)(s:zM)(w:World)(h1:zAi w lo hi v n f)(h2:zBp w oA lA v0 v1 v2 s)(hk:s.kn=8) :
  Calls Tryz.prog 158 #[v,.agg #[v0,v1,v2]] w fun e w'=>zL (zJr n f s) e/\Below w.heap.size w w':=by
 have Hv:Hid (zAi w lo hi v n f):=h1;obtain⟨m1,a,c,rfl,mc,g1⟩:=h1;have Hs:Hid (zBp w oA lA v0 v1 v2 s):=h2;obtain⟨rfl,⟨m2,ka,kc,rfl,kB,g2⟩,rfl,m3⟩:=h2;have Hk:Hid (s.kn=8):=hk;clear g1 g2 hk;go_enter Tryz.func158,Tryz.ntmps158;go_wp2_with fail;have iA:=zD w (.cells #[.int .i64 s.birth,.slice ka s.kn kc,.string s.data] 58);refine(zD0 _ _ _ oA lA s _ (Hs.out.zcw iA) (Or.inr Hk.out)).mono ?_;rintro e w1 ⟨rfl,kA⟩;have Hx:Hid (zDP w1 w.heap.size (.int .i64 s.birth) (.slice ka s.kn kc) (.string s.data)):=(zDP.new w _ _ _ _).zcw kA;have cB:=zA iA kA;have bA:Hid ((Tryz.prog.info? 215).map (·.size)=some (yU s).size):=by
  show _=_;rw[yU,yk];exact zGe
 clear iA kA;have tA:(#[Value.int .i64 0,Value.int .i64 0,Value.int .i64 0,Value.int .i64 0,Value.int .i64 0,Value.int .i64 0,Value.int .i64 0,Value.int .i64 0,Value.int .i64 0,Value.int .i64 0,Value.int .i64 0,Value.int .i64 0,Value.int .i64 0,Value.int .i64 0,Value.int .i64 0,Value.int .i64 0]:Array Value)=yf (fun _=>0):=rfl;have gA:Hid ((#[Value.int .i64 0,Value.int .i64 0,Value.int .i64 0,Value.int .i64 0,Value.int .i64 0,Value.int .i64 0,Value.int .i64 0,Value.int .i64 0,Value.int .i64 0,Value.int .i64 0,Value.int .i64 0,Value.int .i64 0,Value.int .i64 0,Value.int .i64 0,Value.int .i64 0,Value.int .i64 0]:Array Value)=yf (fun _=>0)):=tA;clear tA;go_wp2_with (first
  | (refine wpList_store_row rfl 215 (.tmp 5) (.tmp 10) rfl w1.heap.size (yU s) rfl rfl 215 #[Value.int .i64 0,Value.int .i64 0,Value.int .i64 0,Value.int .i64 0,Value.int .i64 0,Value.int .i64 0,Value.int .i64 0,Value.int .i64 0,Value.int .i64 0,Value.int .i64 0,Value.int .i64 0,Value.int .i64 0,Value.int .i64 0,Value.int .i64 0,Value.int .i64 0,Value.int .i64 0] (heap_alloc_last _ _) bA.out (by rw[yU,yk];rfl) (zDT _) ?_;rw[World.setRow_alloc_new])
  | (refine wpList_load_row rfl 215 (.tmp 5) rfl w1.heap.size rfl 215 (yU s) (0,0) _ ?hh zLj rfl bA.out ?_;(exact(Below.heap_alloc _ _ _ (by simp)).trans (heap_alloc_last _ _))))
 have iB:w.heap.size<w1.heap.size:=Hx.out.1.lt
 go_loopw [12] (fun i wr=>∃(k:Nat) (g:Nat->Int),k<=8/\i = .int .i64 k/\(∀j,j<k->zCc n f s.birth (s.ks j) (s.kb j) (g (j*2)) (g (j*2+1)))/\zDP wr w.heap.size (.int .i64 s.birth) (.slice ka s.kn kc) (.string s.data)/\
   wr.heap[w1.heap.size]?=some (.cells (yU s) 215 (0,0))/\wr.heap[w1.heap.size+1]?=some (.cells (yf g) 215 (0,0))/\Below w.heap.size w wr) (fun i _=>8 - (intOf i).toNat)
 case atStart=>
  refine⟨0,fun _=>0,Nat.zero_le _,rfl,fun j hj=>absurd hj (Nat.not_lt_zero _),(Hx.out.zcw (zD _ _)).zcw (zD _ _),?_,?_,zA (zA cB (zD _ _)) (zD _ _)⟩
  ·exact(Below.heap_alloc _ _ _ (by simp)).trans (heap_alloc_last _ _)
  ·have:=heap_alloc_last (w1.alloc (.cells (yU s) 215)) (.cells #[Value.int .i64 0,Value.int .i64 0,Value.int .i64 0,Value.int .i64 0,Value.int .i64 0,Value.int .i64 0,Value.int .i64 0,Value.int .i64 0,Value.int .i64 0,Value.int .i64 0,Value.int .i64 0,Value.int .i64 0,Value.int .i64 0,Value.int .i64 0,Value.int .i64 0,Value.int .i64 0] 215);rw[World.size_alloc]at this;rw[this,gA.out]
 case round=>
  obtain⟨k,g,hk,rfl,cA,hx,hK,hF,hb⟩:=hrel;have aA:Hid (∀j,j<k->zCc n f s.birth (s.ks j) (s.kb j) (g (j*2)) (g (j*2+1))):=cA;have HX:Hid (zDP wr w.heap.size (.int .i64 s.birth) (.slice ka s.kn kc) (.string s.data)):=hx;have HK:Hid (wr.heap[w1.heap.size]?=some (.cells (yU s) 215 (0,0))):=hK;have HF:Hid (wr.heap[w1.heap.size+1]?=some (.cells (yf g) 215 (0,0))):=hF;clear cA hx hK hF;have nA:w1.heap.size+1<wr.heap.size:=(Array.getElem?_eq_some_iff.1 HF.out).1;by_cases sA:k<8
  ·have gB:(k:Int)<8:=(by omega);have mA:∀w,(Instr.index 215 (.agg (yU s)) (.int .i64 (k:Int))).run Tryz.prog w = .ok (.agg #[.int .i64 (s.ks k),.int .i64 (s.kb k)]) w:=fun w=>by
    have e:=zON (zQ s) k sA w;have e0:zQ s (k*2)=s.ks k:=(by unfold zQ;rw[if_pos (by have:=Hk.out;omega),if_pos (by omega),show k*2 / 2=k by omega]);have e1:zQ s (k*2+1)=s.kb k:=(by unfold zQ;rw[if_pos (by have:=Hk.out;omega),if_neg (by omega),show(k*2+1) / 2=k by omega]);rw[e0,e1]at e;exact e
   obtain⟨⟨x0,x1⟩,⟨x2,x3⟩,⟨x4,x5⟩⟩:=HX.out;have jB:w.heap.size<wr.heap.size:=(by omega);go_wp2_with fail;have jA:=zD wr (.cells #[.int .i64 (s.ks k),.int .i64 (s.kb k)] 70);refine(zPZ _ n lo hi f _ _ _ _ (Hv.out.zcw (zA hb jA))).mono ?_;rintro e w2 ⟨⟨rs,rb,rfl,rA⟩,pA⟩;have bB:Hid (zCc n f s.birth (s.ks k) (s.kb k) rs rb):=rA;have dA:=zA jA pA;have eA:Hid (w2.heap[w1.heap.size+1]?=some (.cells (yf g) 215 (0,0))):=(dA.block _ nA).trans HF.out;have vA:Hid (w2.heap[w1.heap.size]?=some (.cells (yU s) 215 (0,0))):=(dA.block _ (by omega)).trans HK.out;have aB:Hid (zDP w2 w.heap.size (.int .i64 s.birth) (.slice ka s.kn kc) (.string s.data)):=HX.out.zcw dA;have eB:=zA hb dA;clear rA pA jA dA x0 x1 x2 x3 x4 x5 mA HF HK HX hb;obtain⟨y0,y1⟩:=zG (i:=k*2) eA.out (zCu g (by omega));obtain⟨y2,y3⟩:=zG (i:=k*2+1) eA.out (zCu g (by omega));go_wp2;go_roundw
   case rel=>
    refine⟨k+1,fun j=>if j=k*2 then rs else if j=k*2+1 then rb else g j,by omega,by go_num,fun j hj=>?_,(aB.out.other _ (by omega)).other _ (by omega),?_,?_,(eB.setCell (by show _<=w1.heap.size+1;omega) _).setCell (by show _<=w1.heap.size+1;omega) _⟩
    ·by_cases e:j=k
     ·subst e;simp only[if_true];rw[if_neg (by omega)];exact bB.out
     ·simp only;rw[if_neg (by omega),if_neg (by omega),if_neg (by omega),if_neg (by omega)];exact aA.out j (by omega)
    ·rw[Below.heap_setCell _ _ _ _ (by show w1.heap.size≠w1.heap.size+1;omega),Below.heap_setCell _ _ _ _ (by show w1.heap.size≠w1.heap.size+1;omega)];exact vA.out
    ·have:=zDO (o:=k*2+1) (.int .i64 rb) (zDO (o:=k*2) (.int .i64 rs) eA.out);rw[zNy g k sA]at this;exact this
   case measure=>simp[intOf];omega
  ·obtain rfl:k=8:=(by omega);have fB:∀w,(binOp .eql 215 (.agg (yf g)) (.agg (yU s))).run Tryz.prog w = .ok (.bool (zJI g (zQ s))) w:=fun w=>zTu g (zQ s) w
   have fA:Hid ((Tryz.prog.info? 215).map (·.size)=some (yf g).size):=by
    show _=_;rw[yk];exact zGe
   go_wp2_with (first
    | (refine wpList_load_row rfl 215 (.tmp 6) rfl (w1.heap.size+1) rfl 215 (yf g) (0,0) _ HF.out zLj rfl fA.out ?_)
    | (refine wpList_load_row rfl 215 (.tmp 5) rfl w1.heap.size rfl 215 (yU s) (0,0) _ HK.out zLj rfl bA.out ?_))
   go_ret;refine⟨⟨_,rfl,?_⟩,hb⟩;rw[zJJ];have e0:∀i,i<8->zQ s (i*2)=s.ks i/\zQ s (i*2+1)=s.kb i:=fun i hi=>by
    have:=Hk.out;refine⟨?_,?_⟩
    ·unfold zQ;rw[if_pos (by omega),if_pos (by omega),show i*2 / 2=i by omega]
    ·unfold zQ;rw[if_pos (by omega),if_neg (by omega),show(i*2+1) / 2=i by omega]
   constructor
   ·intro h i hi;have:=aA.out i hi;rw[(h i hi).1,(h i hi).2,(e0 i hi).1,(e0 i hi).2]at this;exact this
   ·intro h i hi;rw[(e0 i hi).1,(e0 i hi).2];exact(aA.out i hi).uniq (h i hi)
def zDv(n:Nat)(f:Nat->zM)(s:zM):Prop:=zAA s\/zK8 s\/(zQI s/\zJr n f s)
def zI0(p:zE)(i:Nat):Prop:=¬zDc p.n p.s (p.h i) 0 0/\¬Has i p.h (p.h i)
def zbP(p:zE):Prop:=p.n<=200/\p.hn<=p.n/\(∀i,i<p.n->zDv p.n p.s (p.s i))/\∀i,i<p.hn->zI0 p i
theorem zNq(v v0 v1 v2:Value)(n lo hi bA aA:Nat)(f:Nat->zM)(s:zM)(w:World)(h1:zAi w lo hi v n f)(h2:zBp w bA aA v0 v1 v2 s) :
  Calls Tryz.prog 141 #[v,.agg #[v0,v1,v2]] w fun e w'=>zL (zDv n f s) e/\Below w.heap.size w w':=by
 have Hv:Hid (zAi w lo hi v n f):=h1;obtain⟨m1,a,c,rfl,mc,g1⟩:=h1;have Hs:Hid (zBp w bA aA v0 v1 v2 s):=h2;obtain⟨rfl,⟨m2,ka,kc,rfl,oA,g2⟩,rfl,m3⟩:=h2;clear g1 g2;go_enter Tryz.func141,Tryz.ntmps141;go_wp2_with fail;have gA:=zD w (.cells #[.int .i64 s.birth,.slice ka s.kn kc,.string s.data] 58);refine(zCy _ _ _ bA aA s _ (Hs.out.zcw gA)).mono ?_;rintro e w1 ⟨⟨t,rfl,ht⟩,iA⟩;have Hx:Hid (zDP w1 w.heap.size (.int .i64 s.birth) (.slice ka s.kn kc) (.string s.data)):=(zDP.new w _ _ _ _).zcw iA;have dA:=zA gA iA;clear gA iA;by_cases hf:zAA s
 ·obtain rfl:t=true:=ht.2 hf;have HF:Hid (zAA s):=hf;clear ht hf;go_wp2;go_ret;exact⟨zL.yes (Or.inl HF.out),dA⟩
 ·obtain rfl:t=false:=yy ht hf;have HF:Hid (¬zAA s):=hf;clear ht hf;obtain⟨⟨x0,x1⟩,⟨x2,x3⟩,⟨x4,x5⟩⟩:=Hx.out;go_wp2_with fail;refine(zMO _ _ _ bA aA s _ (Hs.out.zcw dA)).mono ?_;rintro e w2 ⟨⟨t,rfl,ht⟩,jA⟩;have fA:Hid (zDP w2 w.heap.size (.int .i64 s.birth) (.slice ka s.kn kc) (.string s.data)):=Hx.out.zcw jA;have eA:=zA dA jA;clear jA dA x0 x1 x2 x3 x4 x5 Hx;by_cases hf:zK8 s
  ·obtain rfl:t=true:=ht.2 hf;have HP:Hid (zK8 s):=hf;clear ht hf;go_wp2;go_ret;exact⟨zL.yes (Or.inr (Or.inl HP.out)),eA⟩
  ·obtain rfl:t=false:=yy ht hf;have HP:Hid (¬zK8 s):=hf;clear ht hf;obtain⟨⟨x0,x1⟩,⟨x2,x3⟩,⟨x4,x5⟩⟩:=fA.out;go_wp2_with fail;refine(zSo _ _ _ bA aA s _ (Hs.out.zcw eA)).mono ?_;rintro e w3 ⟨⟨t,rfl,ht⟩,kA⟩;have lA:Hid (zDP w3 w.heap.size (.int .i64 s.birth) (.slice ka s.kn kc) (.string s.data)):=fA.out.zcw kA;have cA:=zA eA kA;clear kA eA x0 x1 x2 x3 x4 x5 fA;by_cases hf:zQI s
   ·obtain rfl:t=true:=ht.2 hf;have HN:Hid (zQI s):=hf;clear ht hf;obtain⟨⟨x0,x1⟩,⟨x2,x3⟩,⟨x4,x5⟩⟩:=lA.out;go_wp2_with fail;refine(zNi _ _ _ _ n lo hi bA aA f s _ (Hv.out.zcw cA) (Hs.out.zcw cA) HN.out.2.1).mono ?_;rintro e w4 ⟨⟨t,rfl,ht⟩,mA⟩;have Ht:Hid (t=true↔zJr n f s):=ht;have nA:=zA cA mA;clear mA cA x0 x1 x2 x3 x4 x5 lA ht;go_wp2;go_ret;refine⟨⟨t,rfl,Ht.out.trans ⟨fun h=>Or.inr (Or.inr ⟨HN.out,h⟩),fun h=>?_⟩⟩,nA⟩;rcases h with h | h | h
    ·exact absurd h HF.out
    ·exact absurd h HP.out
    ·exact h.2
   ·obtain rfl:t=false:=yy ht hf;have HN:Hid (¬zQI s):=hf;clear ht hf;go_wp2;go_ret;refine⟨zL.no fun h=>?_,cA⟩;rcases h with h | h | h
    ·exact HF.out h
    ·exact HP.out h
    ·exact HN.out h.1
theorem zNh(v0 v1:Value)(lo hi:Nat)(p:zE)(w:World)(h1:zCV w lo hi v0 v1 p) :
  Calls Tryz.prog 142 #[.agg #[v0,v1]] w fun e w'=>zL (∀i,i<p.hn->zI0 p i) e/\Below w.heap.size w w':=by
 have Hp:Hid (zCV w lo hi v0 v1 p):=h1;obtain⟨⟨m1,a,c,rfl,mc,g1⟩,⟨m2,a',c',rfl,rA,g2⟩⟩:=h1;unfold maxLen at m1 m2;clear g1 g2;go_enter Tryz.func142,Tryz.ntmps142;go_wp2
 go_loopw [8] (fun i wr=>∃k:Nat,k<=p.hn/\i = .int .i64 k/\(∀j,j<k->zI0 p j)/\zAZ wr w.heap.size (.slice a p.n c) (.slice a' p.hn c')/\Below w.heap.size w wr) (fun i _=>p.hn - (intOf i).toNat)
 case atStart=>exact⟨0,Nat.zero_le _,rfl,fun j hj=>absurd hj (Nat.not_lt_zero _),zAZ.new _ _ _ _,zD _ _⟩
 case round=>
  obtain⟨k,hk,rfl,bA,hx,hb⟩:=hrel;have aA:Hid (∀j,j<k->zI0 p j):=bA;have Hx:Hid (zAZ wr w.heap.size (.slice a p.n c) (.slice a' p.hn c')):=hx;clear bA hx;obtain⟨⟨y0,y1⟩,⟨y2,y3⟩⟩:=Hx.out;by_cases eA:k<p.hn
  ·have nA:(k:Int)<(p.hn:Int):=(by omega);have cA:=Hp.out.2.zcw hb;have fA:Hid (zCE wr lo hi (.slice a' p.hn c') p.hn p.h):=cA;obtain⟨_,a2,mA,kA,_,lA⟩:=cA;simp only[Value.slice.injEq,true_and]at kA;obtain⟨rfl,rfl⟩:=kA;obtain⟨b,off,rfl,_,_,k1⟩:=lA (by omega);have oA:=k1 k eA;clear k1 lA;go_wp2_with fail;refine(zHu _ p.n lo hi p.s _ _ (Hp.out.1.zcw hb)).mono ?_;rintro e w1 ⟨⟨ps,pb,rfl,jA⟩,dA⟩;have iA:Hid (zDc p.n p.s (p.h k) ps pb):=jA;have HX:Hid (zAZ w1 w.heap.size (.slice a p.n c) (.slice (some ⟨b,off,none⟩) p.hn c')):=Hx.out.zcw dA;have HI:Hid (zCE w1 lo hi (.slice (some ⟨b,off,none⟩) k k) k p.h):=(fA.out.zcw dA).take (by omega) (by omega);have gA:=zA hb dA;clear jA dA y0 y1 y2 y3 Hx;by_cases hz:ps=0/\pb=0
   ·obtain⟨rfl,rfl⟩:=hz;go_wp2;go_ret;exact⟨zL.no fun h=>(h k eA).1 iA.out,gA⟩
   ·have HZ:Hid (¬zDc p.n p.s (p.h k) 0 0):=fun h=>by
     obtain⟨e0,e1⟩:=iA.out.uniq h;exact hz ⟨e0,e1⟩
    have e0:(ps == 0)=false\/(ps == 0)=true/\(pb == 0)=false:=by
     by_cases h:ps=0
     ·right;refine⟨by simp[h],?_⟩;have:pb≠0:=fun h'=>hz ⟨h,h'⟩
      simp[this]
     ·left;simp[h]
    clear hz;obtain⟨⟨y0,y1⟩,⟨y2,y3⟩⟩:=HX.out;have pA:k<=c':=(by omega);by_cases hh:Has k p.h (p.h k)
    ·have HH:Hid (Has k p.h (p.h k)):=hh;clear hh;rcases e0 with e0 | ⟨e0,e1⟩
     all_goals
      go_wp2_with fail;refine(zCW _ k lo hi p.h _ _ HI.out).mono ?_;rintro e w2 ⟨⟨t,rfl,ht⟩,rfl⟩;obtain rfl:t=true:=ht.2 HH.out;clear ht;go_wp2;go_ret;exact⟨zL.no fun h=>(h k eA).2 HH.out,gA⟩
    ·have HH:Hid (¬Has k p.h (p.h k)):=hh;clear hh;rcases e0 with e0 | ⟨e0,e1⟩
     all_goals
      go_wp2_with fail;refine(zCW _ k lo hi p.h _ _ HI.out).mono ?_;rintro e w2 ⟨⟨t,rfl,ht⟩,rfl⟩;obtain rfl:t=false:=yy ht HH.out;clear ht y0 y1 y2 y3;go_wp2;go_roundw
      case rel=>exact⟨k+1,by omega,by go_num,yE eA aA.out ⟨HZ.out,HH.out⟩,HX.out,gA⟩
      case measure=>simp[intOf];omega
  ·obtain rfl:k=p.hn:=(by omega);go_wp2;go_ret;exact⟨zL.yes aA.out,hb⟩
theorem zYV:∀(m n:Nat) (h:Nat->Nat),(∀i,i<m->h i<n)->(∀i j,i<j->j<m->h i≠h j)->m<=n
 | 0,_,_,_,_=>Nat.zero_le _
 | m+1,0,h,hlt,_=>absurd (hlt 0 (by omega)) (Nat.not_lt_zero _)
 | m+1,n+1,h,hlt,hne=>by
  have key:=zYV m n (fun i=>if h i<h m then h i else h i - 1) (fun i hi=>by
   have a:=hlt i (by omega);have b:=hne i m hi (by omega);have c:=hlt m (by omega);show(if h i<h m then h i else h i - 1)<n;split<;>omega) (fun i j aA hj=>by
   have a:=hne i j aA (by omega);have b:=hne i m (by omega) (by omega);have c:=hne j m (by omega) (by omega);show(if h i<h m then h i else h i - 1)≠(if h j<h m then h j else h j - 1);split<;>split<;>omega)
  omega
theorem zL6{s:zM}(h:zAA s):s.birth=0:=h.1
theorem zYL{n:Nat}{f:Nat->zM}{s:zM}(h:zDv n f s)(hf:¬zAA s):1<=s.birth:=by
 rcases h with h | h | h
 ·exact absurd h hf
 ·exact h.1.1
 ·exact h.1.1.1
theorem zL3{p:zE}{s:zM}(h:zAA s\/zDZ p s)(hf:¬zAA s):1<=s.birth:=by
 rcases h with h | h
 ·exact absurd h hf
 ·exact h.1.1
theorem zT5{p:zE}{b ks kb:Int}(aA:∀i,i<p.n->¬zAA (p.s i)->1<=(p.s i).birth):zCc p.n p.s b ks kb ks kb↔zTd p b ks kb:=by
 constructor
 ·rintro⟨ps,pb,hp,h⟩;rcases h with⟨h,rfl,rfl⟩ | ⟨h,rfl,rfl⟩
  ·exact Or.inl ⟨rfl,rfl⟩
  ·rcases hp with⟨h1,h2,h3,_,h5⟩ | ⟨h1,rfl,rfl⟩
   ·right;have hb:=aA ks.toNat (by omega) h3;rw[<-h5]at hb;refine⟨⟨hb,h1,h2,h5.symm⟩,?_⟩;by_cases hx:b<kb
    ·exact absurd (Or.inr hx) h
    ·omega
   ·exact absurd (Or.inl ⟨rfl,rfl⟩) h
 ·rintro(⟨rfl,rfl⟩ | ⟨⟨h1,h2,h3,h4⟩,h5⟩)
  ·by_cases hx:0<p.n/\¬zAA (p.s 0)
   ·refine⟨0,(p.s 0).birth,Or.inl ⟨by omega,by omega,?_,rfl,rfl⟩,Or.inl ⟨Or.inl ⟨rfl,rfl⟩,rfl,rfl⟩⟩;exact hx.2
   ·refine⟨0,0,Or.inr ⟨fun h=>hx ⟨by omega,h.2.2⟩,rfl,rfl⟩,Or.inl ⟨Or.inl ⟨rfl,rfl⟩,rfl,rfl⟩⟩
  ·refine⟨ks,kb,Or.inl ⟨h2,h3,fun hf=>?_,rfl,h4.symm⟩,Or.inr ⟨fun h=>?_,rfl,rfl⟩⟩
   ·have:=zL6 hf;omega
   ·rcases h with h | h
    ·have:=h.2;omega
    ·omega
theorem zGE(p:zE):zbP p↔zq p:=by
 constructor
 ·rintro⟨h1,h2,h3,h4⟩;have aA:∀i,i<p.n->¬zAA (p.s i)->1<=(p.s i).birth:=fun i hi=>zYL (h3 i hi)
  refine⟨h1,fun i hi=>?_,fun i hi=>?_⟩
  ·rcases h3 i hi with h | h | h
   ·exact Or.inl h
   ·exact Or.inr ⟨h.1,Or.inl h.2⟩
   ·refine Or.inr ⟨h.1.1,Or.inr ⟨h.1.2.1,h.1.2.2,fun j hj=>?_⟩⟩;exact(zT5 aA).1 (h.2 j (by have:=h.1.2.1;omega))
  ·obtain⟨ha,hb⟩:=h4 i hi;have hx:0<=p.h i/\p.h i<p.n/\¬zAA (p.s (p.h i).toNat):=by
    by_cases hx:0<=p.h i/\p.h i<p.n/\¬zAA (p.s (p.h i).toNat)
    ·exact hx
    ·exact absurd (Or.inr ⟨hx,rfl,rfl⟩) ha
   exact⟨hx.1,hx.2.1,hx.2.2,hb⟩
 ·rintro⟨h1,h3,h4⟩;have aA:∀i,i<p.n->¬zAA (p.s i)->1<=(p.s i).birth:=fun i hi=>zL3 (h3 i hi)
  refine⟨h1,?_,fun i hi=>?_,fun i hi=>?_⟩
  ·refine zYV p.hn p.n (fun i=>(p.h i).toNat) (fun i hi=>?_) (fun i j bA hj=>?_)
   ·obtain⟨a,b,_,_⟩:=h4 i hi;show(p.h i).toNat<p.n;omega
   ·obtain⟨a,b,_,d⟩:=h4 j hj;obtain⟨a',b',_,_⟩:=h4 i (by omega);show(p.h i).toNat≠(p.h j).toNat;intro e;exact d ⟨i,bA,by omega⟩
  ·rcases h3 i hi with h | h
   ·exact Or.inl h
   ·rcases h.2 with g | g
    ·exact Or.inr (Or.inl ⟨h.1,g⟩)
    ·exact Or.inr (Or.inr ⟨⟨h.1,g.1,g.2.1⟩,fun j hj=>(zT5 aA).2 (g.2.2 j (by omega))⟩)
  ·obtain⟨a,b,c,d⟩:=h4 i hi;refine⟨fun hx=>?_,d⟩;rcases hx with⟨_,_,_,e1,e2⟩ | ⟨hx,_⟩
   ·have:=aA (p.h i).toNat (by omega) c;omega
   ·exact hx ⟨a,b,c⟩
theorem zDi(v0 v1:Value)(lo hi:Nat)(p:zE)(w:World)(h1:zCV w lo hi v0 v1 p) :
  Calls Tryz.prog 116 #[.agg #[v0,v1]] w fun e w'=>zL (zq p) e/\Below w.heap.size w w':=by
 have Hp:Hid (zCV w lo hi v0 v1 p):=h1;obtain⟨⟨m1,a,c,rfl,mc,g1⟩,⟨m2,a',c',rfl,mA,g2⟩⟩:=h1;unfold maxLen at m1 m2;clear g1 g2;have fA:Hid (Below w.heap.size w (w.alloc (.cells #[.slice a p.n c,.slice a' p.hn c'] 26))):=zD _ _;by_cases hn:(200:Int)<p.n
 ·have H:Hid (¬zq p):=fun h=>by have:=h.1;omega
  go_enter Tryz.func116,Tryz.ntmps116;go_wp2;go_ret;exact⟨zL.no H.out,fA.out⟩
 by_cases kA:(p.n:Int)<p.hn
 ·have H:Hid (¬zq p):=fun h=>by have:=((zGE p).2 h).2.1;omega
  go_enter Tryz.func116,Tryz.ntmps116;go_wp2;go_ret;exact⟨zL.no H.out,fA.out⟩
 ·go_enter Tryz.func116,Tryz.ntmps116;go_wp2
  go_loopw [21] (fun i wr=>∃k:Nat,k<=p.n/\i = .int .i64 k/\(∀j,j<k->zDv p.n p.s (p.s j))/\zAZ wr w.heap.size (.slice a p.n c) (.slice a' p.hn c')/\Below w.heap.size w wr) (fun i _=>p.n - (intOf i).toNat)
  case atStart=>exact⟨0,Nat.zero_le _,rfl,fun j hj=>absurd hj (Nat.not_lt_zero _),zAZ.new _ _ _ _,fA.out⟩
  case round=>
   obtain⟨k,hk,rfl,bA,hx,hb⟩:=hrel;have aA:Hid (∀j,j<k->zDv p.n p.s (p.s j)):=bA;have Hx:Hid (zAZ wr w.heap.size (.slice a p.n c) (.slice a' p.hn c')):=hx;clear bA hx;obtain⟨⟨y0,y1⟩,⟨y2,y3⟩⟩:=Hx.out;have lA:w.heap.size<wr.heap.size:=Hx.out.1.lt;by_cases iA:k<p.n
   ·have jA:(k:Int)<(p.n:Int):=(by omega);obtain⟨b,off,ka,kc,rfl,hs⟩:=(Hp.out.1.zcw hb).cells iA;have Hs:Hid (zDt wr b (off+k*3) lo hi ka kc (p.s k)):=hs;obtain⟨q0,q1,q2,_⟩:=hs;go_wp2_with fail;have dA:=zD wr (.cells #[.int .i64 (p.s k).birth,.slice ka (p.s k).kn kc,.string (p.s k).data] 58);refine(zNq _ _ _ _ p.n lo hi lo hi p.s (p.s k) _ (Hp.out.1.zcw (zA hb dA)) (Hs.out.slot.zcw dA)).mono ?_;rintro e w1 ⟨⟨t,rfl,ht⟩,cA⟩;have gA:=zA dA cA;have HX:Hid (zAZ w1 w.heap.size (.slice (some ⟨b,off,none⟩) p.n c) (.slice a' p.hn c')):=Hx.out.zcw gA;have eA:=zA hb gA;have Ht:Hid (t=true↔zDv p.n p.s (p.s k)):=ht;clear dA cA gA ht q0 q1 q2 y0 y1 y2 y3 Hx Hs;cases t
    ·go_wp2;go_ret;refine⟨zL.no fun h=>?_,eA⟩;have:=((zGE p).2 h).2.2.1 k iA;exact absurd (Ht.out.2 this) (by simp)
    ·go_wp2;go_roundw
     case rel=>exact⟨k+1,by omega,by go_num,yE iA aA.out (by simpa using Ht.out),HX.out,eA⟩
     case measure=>simp[intOf];omega
   ·obtain rfl:k=p.n:=(by omega);go_wp2_with fail;refine(zNh _ _ lo hi p _ (Hp.out.zcw hb)).mono ?_;rintro e w1 ⟨⟨t,rfl,ht⟩,cA⟩;have Ht:Hid (t=true↔∀i,i<p.hn->zI0 p i):=ht;have eA:=zA hb cA;clear ht cA y0 y1 y2 y3;go_wp2;go_ret;refine⟨⟨t,rfl,Ht.out.trans ⟨fun h=>?_,fun h=>?_⟩⟩,eA⟩
    ·exact(zGE p).1 ⟨by omega,by omega,aA.out,h⟩
    ·exact((zGE p).2 h).2.2.2
theorem zDc.some(n:Nat)(f:Nat->zM)(x:Int):∃ps pb,zDc n f x ps pb:=by
 by_cases h:0<=x/\x<n/\¬zAA (f x.toNat)
 ·exact⟨x,(f x.toNat).birth,Or.inl ⟨h.1,h.2.1,h.2.2,rfl,rfl⟩⟩
 ·exact⟨0,0,Or.inr ⟨h,rfl,rfl⟩⟩
theorem zJ4(v:Value)(n lo hi:Nat)(f:Nat->zM)(xs xb:Int)(w:World)(h1:zAi w lo hi v n f) :
  Calls Tryz.prog 163 #[v,.agg #[.int .i64 xs,.int .i64 xb]] w fun e w'=>zL (¬zLZ xs xb 0 0/\zDc n f xs xs xb) e/\Below w.heap.size w w':=by
 have Hi:Hid (zAi w lo hi v n f):=h1;obtain⟨m1,a,c,rfl,mc,g1⟩:=h1;clear g1;have ha:=zD w (.cells #[.int .i64 xs,.int .i64 xb] 70);have Hx:Hid (zAZ (w.alloc (.cells #[.int .i64 xs,.int .i64 xb] 70)) w.heap.size (.int .i64 xs) (.int .i64 xb)):=zAZ.new _ _ _ _;by_cases hz:xs=0/\xb=0
 ·obtain⟨rfl,rfl⟩:=hz;go_enter Tryz.func163,Tryz.ntmps163;go_wp2_with fail
  go_quiet (fail)
  go_wp2;go_ret;exact⟨zL.no fun h=>h.1 ⟨rfl,rfl⟩,zAe ha _⟩
 ·have HZ:Hid (¬zLZ xs xb 0 0):=hz;have e0:(xs == 0)=false\/(xs == 0)=true/\(xb == 0)=false:=by
   by_cases h:xs=0
   ·right;refine⟨by simp[h],?_⟩;have:xb≠0:=fun h'=>hz ⟨h,h'⟩
    simp[this]
   ·left;simp[h]
  clear hz;obtain⟨bA,dA,h0⟩:=zDc.some n f xs;have H0:Hid (zDc n f xs bA dA):=h0;clear h0;by_cases hq:xs=bA/\xb=dA
  ·obtain⟨rfl,rfl⟩:=hq;rcases e0 with e0 | ⟨e0,e1⟩
   all_goals
    go_enter Tryz.func163,Tryz.ntmps163;go_wp2_with fail;go_region_held3 (fun w'=>w'.cell? ⟨w.heap.size,0,none⟩=some (.int .i64 xs)/\w'.cell? ⟨w.heap.size,1,none⟩=some (.int .i64 xb)) (go_keep)
     (first | (go_at_call 159;refine(zHu _ n lo hi f _ _ ?_).mono ?_;(exact(Hi.out.zcw ha).zcw ((Below.refl _ _).drew));rintro e w1 ⟨⟨ps,pb,rfl,hp⟩,cA⟩;obtain⟨rfl,rfl⟩:=H0.out.uniq hp;clear hp;have aA:=qU cA;have z0:=(Hx.out.zcw aA).1.1;have z1:=(Hx.out.zcw aA).2.1))
    have eA:=zA ha aA;clear cA aA z0 z1;go_wp2;go_ret;exact⟨zL.yes ⟨HZ.out,H0.out⟩,eA⟩
  ·have HQ:Hid (¬(xs=bA/\xb=dA)):=hq;have e4:(xs == bA)=false\/(xs == bA)=true/\(xb == dA)=false:=by
    by_cases h:xs=bA
    ·right;refine⟨by simp[h],?_⟩;have:xb≠dA:=fun h'=>hq ⟨h,h'⟩
     simp[this]
    ·left;simp[h]
   clear hq;rcases e0 with e0 | ⟨e0,e1⟩
   all_goals
    rcases e4 with e4 | ⟨e4,e5⟩
    all_goals
     go_enter Tryz.func163,Tryz.ntmps163;go_wp2_with fail;go_region_held3 (fun w'=>w'.cell? ⟨w.heap.size,0,none⟩=some (.int .i64 xs)/\w'.cell? ⟨w.heap.size,1,none⟩=some (.int .i64 xb)) (go_keep)
      (first | (go_at_call 159;refine(zHu _ n lo hi f _ _ ?_).mono ?_;(exact(Hi.out.zcw ha).zcw ((Below.refl _ _).drew));rintro e w1 ⟨⟨ps,pb,rfl,hp⟩,cA⟩;obtain⟨rfl,rfl⟩:=H0.out.uniq hp;clear hp;have aA:=qU cA;have z0:=(Hx.out.zcw aA).1.1;have z1:=(Hx.out.zcw aA).2.1))
     have eA:=zA ha aA;clear cA aA z0 z1;go_wp2;go_ret;refine⟨zL.no fun h=>?_,eA⟩;obtain⟨q0,q1⟩:=h.2.uniq H0.out;exact HQ.out ⟨q0,q1⟩
theorem zJ5{p:zE}{xs xb:Int}(hR:zq p):(¬zLZ xs xb 0 0/\zDc p.n p.s xs xs xb)↔yT p xs xb:=by
 constructor
 ·rintro⟨h,h1 | ⟨_,h2,h3⟩⟩
  ·obtain⟨a,b,c,_,e⟩:=h1;have:=zL3 (hR.2.1 xs.toNat (by omega)) c;exact⟨by omega,a,b,e.symm⟩
  ·exact absurd ⟨h2,h3⟩ h
 ·rintro⟨a,b,c,d⟩;refine⟨fun h=>by have:=h.2;omega,Or.inl ⟨b,c,fun hf=>?_,rfl,d.symm⟩⟩;have:=zL6 hf;omega
def Nil(xs xb:Int):Prop:=xs=0/\xb=0
instance (xs xb:Int):Decidable (Nil xs xb):=inferInstanceAs (Decidable (xs=0/\xb=0))
def one(xs xb:Int):List (Int×Int):=if Nil xs xb then [] else [(xs,xb)]
def kidsUp(ks kb:Nat->Int):Nat->List (Int×Int)
 | 0=>[]
 | k+1=>kidsUp ks kb k ++ one (ks k) (kb k)
def qS(s:zM)(i:Nat):Int:=zQ s (i*2)
def yh(s:zM)(i:Nat):Int:=zQ s (i*2+1)
def zRD(s:zM):List (Int×Int):=kidsUp (qS s) (yh s) 8
def zGm(p:zE)(xs xb:Int):List (Int×Int):=if Nil xs xb then [] else(xs,xb) :: zRD (p.s xs.toNat)
def zCS(p:zE)(s:zM):Nat->List (Int×Int)
 | 0=>[]
 | k+1=>zCS p s k ++ zGm p (qS s k) (yh s k)
def zN(p:zE)(rs rb:Int):List (Int×Int):=if Nil rs rb then [] else(rs,rb) :: zCS p (p.s rs.toNat) 8
theorem zCp{s:zM}(h:s.kn=8){i:Nat}(hi:i<8):qS s i=s.ks i:=by
 unfold qS zQ;rw[show i*2 / 2=i by omega,if_pos (by omega),if_pos (by omega)]
theorem zDC{s:zM}(h:s.kn=8){i:Nat}(hi:i<8):yh s i=s.kb i:=by
 unfold yh zQ;rw[show(i*2+1) / 2=i by omega,if_pos (by omega),if_neg (by omega)]
theorem zPa{s:zM}(h:s.kn=0)(i:Nat):qS s i=0:=by
 unfold qS zQ;rw[if_neg (by omega)]
theorem zPY{s:zM}(h:s.kn=0)(i:Nat):yh s i=0:=by
 unfold yh zQ;rw[if_neg (by omega)]
theorem zZ0{xs xb:Int}{x:Int×Int}:x∈one xs xb↔x=(xs,xb)/\¬Nil xs xb:=by
 unfold one;by_cases h:Nil xs xb
 ·rw[if_pos h];simp[h]
 ·rw[if_neg h];simp[h]
theorem zD7{ks kb:Nat->Int}{x:Int×Int}:∀{k:Nat},x∈kidsUp ks kb k↔∃i,i<k/\x=(ks i,kb i)/\¬Nil (ks i) (kb i)
 | 0=>by simp[kidsUp]
 | k+1=>by
  rw[kidsUp,List.mem_append,zD7,zZ0];constructor
  ·rintro(⟨i,hi,h⟩ | h)
   ·exact⟨i,by omega,h⟩
   ·exact⟨k,by omega,h⟩
  ·rintro⟨i,hi,h⟩;by_cases e:i=k
   ·subst e;exact Or.inr h
   ·exact Or.inl ⟨i,by omega,h⟩
theorem zFN{p:zE}{xs xb:Int}{x:Int×Int}:x∈zGm p xs xb↔¬Nil xs xb/\(x=(xs,xb)\/x∈zRD (p.s xs.toNat)):=by
 unfold zGm;by_cases h:Nil xs xb
 ·rw[if_pos h];simp[h]
 ·rw[if_neg h];simp[h]
theorem zD8{p:zE}{s:zM}{x:Int×Int}:∀{k:Nat},x∈zCS p s k↔∃i,i<k/\x∈zGm p (qS s i) (yh s i)
 | 0=>by simp[zCS]
 | k+1=>by
  rw[zCS,List.mem_append,zD8];constructor
  ·rintro(⟨i,hi,h⟩ | h)
   ·exact⟨i,by omega,h⟩
   ·exact⟨k,by omega,h⟩
  ·rintro⟨i,hi,h⟩;by_cases e:i=k
   ·subst e;exact Or.inr h
   ·exact Or.inl ⟨i,by omega,h⟩
theorem zC0(ks kb:Nat->Int):∀k,(kidsUp ks kb k).length<=k
 | 0=>Nat.le_refl _
 | k+1=>by
  have:=zC0 ks kb k;unfold kidsUp one;split<;>simp<;>omega
theorem zRY(p:zE)(xs xb:Int):(zGm p xs xb).length<=9:=by
 unfold zGm;have:=zC0 (qS (p.s xs.toNat)) (yh (p.s xs.toNat)) 8;split
 ·simp
 ·show(zRD _).length+1<=9;unfold zRD;omega
theorem zHz(p:zE)(s:zM):∀k,(zCS p s k).length<=9*k
 | 0=>Nat.le_refl _
 | k+1=>by
  have:=zHz p s k;have:=zRY p (qS s k) (yh s k);unfold zCS;rw[List.length_append];omega
theorem yz(p:zE)(rs rb:Int):(zN p rs rb).length<=73:=by
 unfold zN;have:=zHz p (p.s rs.toNat) 8;split
 ·simp
 ·show(zCS _ _ _).length+1<=73;omega
def zIP(p:zE)(xs xb:Int):Prop:=yT p xs xb/\0<(p.s xs.toNat).kn/\¬Has p.hn p.h xs
def zO3(p:zE)(xs xb:Int):Prop:=yT p xs xb/\(p.s xs.toNat).kn=0/\¬Has p.hn p.h xs
def zaX(p:zE)(s:zM):Prop:=(∀i,i<8->Nil (qS s i) (yh s i)\/zO3 p (qS s i) (yh s i))/\∃i,i<8/\¬Nil (qS s i) (yh s i)
def zNu(p:zE)(s:zM)(i:Nat):Prop:=Nil (qS s i) (yh s i)\/(zIP p (qS s i) (yh s i)/\zaX p (p.s (qS s i).toNat))
def zCo(l:List (Int×Int)):List Int:=l.map Prod.fst
def zac(p:zE)(s:zM):Prop:=(∀i,i<8->zNu p s i)/\∃i,i<8/\¬Nil (qS s i) (yh s i)
def qT(p:zE)(rs rb:Int):Prop:=Nil rs rb\/(zIP p rs rb/\zac p (p.s rs.toNat)/\(zCo (zN p rs rb)).Nodup)
def zAm(p:zE)(rs rb:Int):Prop:=zq p/\qT p rs rb
def zO7(p:zE)(s:zM):Prop:=(∃i,i<8/\¬Nil (qS s i) (yh s i))/\∀i,i<8->Nil (qS s i) (yh s i)\/zK8 (p.s (qS s i).toNat)
def zO6(p:zE)(s:zM):Prop:=(∃i,i<8/\¬Nil (qS s i) (yh s i))/\∀i,i<8->Nil (qS s i) (yh s i)\/zO7 p (p.s (qS s i).toNat)
def zWc(p:zE)(l:List (Int×Int)):Prop:=l.Nodup/\∀x,x∈l->¬Has p.hn p.h x.1
def zPD(p:zE)(rs rb:Int):Prop:=Nil rs rb\/(yT p rs rb/\zO6 p (p.s rs.toNat)/\zWc p (zN p rs rb))
theorem zBG{p:zE}{xs xb:Int}(hR:zq p)(h:yT p xs xb):zDZ p (p.s xs.toNat):=by
 obtain⟨h1,h2,h3,h4⟩:=h;rcases hR.2.1 xs.toNat (by omega)with hf | hf
 ·have:=hf.1;omega
 ·exact hf
theorem zJM{p:zE}{s:zM}(h:zDZ p s):s.kn=0\/s.kn=8:=by
 rcases h.2 with h | h
 ·exact Or.inl h.1
 ·exact Or.inr h.1
theorem zJ9{p:zE}{xs xb:Int}(hR:zq p)(h:yT p xs xb):(p.s xs.toNat).kn=0\/(p.s xs.toNat).kn=8:=zJM (zBG hR h)
theorem zCz{p:zE}{s:zM}(h:zDZ p s){i:Nat}(hi:i<8)(hn:¬Nil (qS s i) (yh s i)):yT p (qS s i) (yh s i)/\yh s i<=s.birth:=by
 rcases h.2 with h2 | h2
 ·exact absurd ⟨zPa h2.1 i,zPY h2.1 i⟩ hn
 ·rw[zCp h2.1 hi,zDC h2.1 hi]at hn ⊢;rcases h2.2.2 i (by omega)with h3 | h3
  ·exact absurd h3 hn
  ·exact h3
theorem zYS{p:zE}{xs xb:Int}(hR:zq p)(h:yT p xs xb):zK8 (p.s xs.toNat)↔(p.s xs.toNat).kn=0:=by
 have hf:=zBG hR h;constructor
 ·exact fun h=>h.2.1
 ·intro h0;rcases hf.2 with h2 | h2
  ·exact⟨hf.1,h2⟩
  ·omega
theorem zRy{s:zM}(h:s.kn=0\/s.kn=8)(he:∃i,i<8/\¬Nil (qS s i) (yh s i)):s.kn=8:=by
 rcases h with h | h
 ·obtain⟨i,_,hi⟩:=he;exact absurd ⟨zPa h i,zPY h i⟩ hi
 ·exact h
theorem zFl{p:zE}{rs rb:Int}(hR:zq p)(h:yT p rs rb):∀x,x∈zN p rs rb->yT p x.1 x.2/\x.2<=rb:=by
 intro x hx;unfold zN at hx;split at hx
 ·simp at hx
 ·rw[List.mem_cons,zD8]at hx;rcases hx with rfl | ⟨i,hi,hx⟩
  ·exact⟨h,by simp⟩
  ·have hf:=zBG hR h;have bA:(p.s rs.toNat).birth=rb:=h.2.2.2;obtain⟨hn,hx⟩:=zFN.1 hx;have hk:=zCz hf hi hn;rcases hx with rfl | hx
   ·exact⟨hk.1,by rw[<-bA];exact hk.2⟩
   ·obtain⟨j,hj,rfl,dA⟩:=zD7.1 hx;have cA:=zBG hR hk.1;have aA:=zCz cA hj dA;have e:(p.s (qS (p.s rs.toNat) i).toNat).birth=yh (p.s rs.toNat) i:=hk.1.2.2.2;have:=hk.2;have:=aA.2;exact⟨aA.1,by show yh _ j<=rb;omega⟩
theorem zJ7{p:zE}{l:List (Int×Int)}(h:∀x,x∈l->yT p x.1 x.2):(zCo l).Nodup↔l.Nodup:=by
 unfold zCo List.Nodup;rw[List.pairwise_map];constructor
 ·exact fun hp=>hp.imp (fun aA e=>aA (by rw[e]))
 ·intro hp;refine List.Pairwise.imp_of_mem ?_ hp;intro a b ha hb aA e;apply aA;have h1:=(h a ha).2.2.2;have h2:=(h b hb).2.2.2;rw[e]at h1;obtain⟨a1,a2⟩:=a;obtain⟨b1,b2⟩:=b;simp only[Prod.mk.injEq];exact⟨e,by simp only at h1 h2 e;rw[<-h1,<-h2]⟩
theorem zNO{p:zE}{rs rb:Int}(hR:zq p):zPD p rs rb↔qT p rs rb:=by
 by_cases hz:Nil rs rb
 ·exact⟨fun _=>Or.inl hz,fun _=>Or.inl hz⟩
 have bA:(rs,rb)∈zN p rs rb:=by unfold zN;rw[if_neg hz];simp
 have cA:∀i,i<8->¬Nil (qS (p.s rs.toNat) i) (yh (p.s rs.toNat) i)->(qS (p.s rs.toNat) i,yh (p.s rs.toNat) i)∈zN p rs rb:=fun i hi hn=>by
  unfold zN;rw[if_neg hz,List.mem_cons,zD8];exact Or.inr ⟨i,hi,zFN.2 ⟨hn,Or.inl rfl⟩⟩
 have dA:∀i,i<8->¬Nil (qS (p.s rs.toNat) i) (yh (p.s rs.toNat) i)->∀x,x∈zRD (p.s (qS (p.s rs.toNat) i).toNat)->x∈zN p rs rb:=fun i hi hn x hx=>by
  unfold zN;rw[if_neg hz,List.mem_cons,zD8];exact Or.inr ⟨i,hi,zFN.2 ⟨hn,Or.inr hx⟩⟩
 constructor
 ·rintro(h | ⟨hP,⟨he,hS⟩,hA⟩)
  ·exact Or.inl h
  ·right;have hf:=zBG hR hP;have kA:=zRy (zJM hf) he;refine⟨⟨hP,by omega,hA.2 _ bA⟩,⟨fun i hi=>?_,he⟩,(zJ7 (fun x hx=>(zFl hR hP x hx).1)).2 hA.1⟩;by_cases hn:Nil (qS (p.s rs.toNat) i) (yh (p.s rs.toNat) i)
   ·exact Or.inl hn
   ·right;have hk:=zCz hf hi hn;have fA:=zBG hR hk.1;obtain⟨eA,gA⟩:zO7 p (p.s (qS (p.s rs.toNat) i).toNat):=by
     rcases hS i hi with h | h
     ·exact absurd h hn
     ·exact h
    have jA:=zRy (zJM fA) eA;refine⟨⟨hk.1,by omega,hA.2 _ (cA i hi hn)⟩,fun j hj=>?_,eA⟩;by_cases aA:Nil (qS (p.s (qS (p.s rs.toNat) i).toNat) j) (yh (p.s (qS (p.s rs.toNat) i).toNat) j)
    ·exact Or.inl aA
    ·right;have iA:=zCz fA hj aA;refine⟨iA.1,?_,hA.2 _ (dA i hi hn _ (zD7.2 ⟨j,hj,rfl,aA⟩))⟩;rcases gA j hj with h | h
     ·exact absurd h aA
     ·exact h.2.1
 ·rintro(h | ⟨hN,⟨hM,he⟩,hD⟩)
  ·exact Or.inl h
  ·right;have hP:=hN.1;have hf:=zBG hR hP;have held:∀x,x∈zN p rs rb->¬Has p.hn p.h x.1:=fun x hx=>by
    unfold zN at hx;rw[if_neg hz,List.mem_cons,zD8]at hx;rcases hx with rfl | ⟨i,hi,hx⟩
    ·exact hN.2.2
    ·obtain⟨hn,hx⟩:=zFN.1 hx;rcases hM i hi with h | ⟨h1,h2⟩
     ·exact absurd h hn
     ·rcases hx with rfl | hx
      ·exact h1.2.2
      ·obtain⟨j,hj,rfl,aA⟩:=zD7.1 hx;rcases h2.1 j hj with h | h
       ·exact absurd h aA
       ·exact h.2.2
   refine⟨hP,⟨he,fun i hi=>?_⟩,(zJ7 (fun x hx=>(zFl hR hP x hx).1)).1 hD,held⟩;rcases hM i hi with h | ⟨h1,h2,h3⟩
   ·exact Or.inl h
   ·refine Or.inr ⟨h3,fun j hj=>?_⟩;rcases h2 j hj with h | h
    ·exact Or.inl h
    ·exact Or.inr ((zYS hR h.1).2 h.2.1)
set_option linter.unusedSimpArgs false
set_option maxRecDepth 20000
set_option maxHeartbeats 1600000
theorem zFo{F G:Nat->Nat->Tr}:zAC F 0 G=G:=by
 funext p q;simp[zAC]
theorem zEt{a b:Nat->Int}:(fun p q=>(ptrsT a b p q).nt)=ptrsT a b:=by
 funext p q;unfold ptrsT;split<;>rfl
theorem zUe{a:Nat->Int}:(fun p q=>(qx a p q).nt)=qx a:=rfl
def zFT{α : Type}(enc:α->Nat->Tr)(d:α)(l:List α):Nat->Nat->Tr:=fun i c=>enc (l[i]?.getD d) c
section
variable {α : Type} {enc : α -> Nat -> Tr} {d : α} {l m : List α} {fl : Fl} {k : Nat}
theorem zDM(h:l=m):TrE (.s fl k l.length (zFT enc d l)) (.s fl k m.length (zFT enc d m)):=h▸TrE.refl _
theorem zJg{F:Nat->Nat->Tr}(h:m = []):TrE (.s fl k 0 F) (.s fl k m.length (zFT enc d m)):=by
 subst h;exact⟨.inl rfl,rfl,rfl,fun i j hi=>by omega⟩
theorem zaF{F:Nat->Nat->Tr}{e:Nat}{x:List α}(he:e=x.length)(hF:∀i,(h:i<x.length)->∀j,j<k->F i j=enc x[i] j)(h:l ++ x=m):TrE (.s fl k (l.length+e) (zAC (zFT enc d l) l.length F)) (.s fl k m.length (zFT enc d m)):=by
 subst h he;refine⟨.inl rfl,rfl,by simp,fun i j hi hj=>TrE.of_eq ?_⟩;by_cases hl:i<l.length
 ·simp[zAC,zFT,hl,List.getElem?_append_left hl]
 ·simp only[zAC,zFT,if_neg hl];rw[hF (i - l.length) (by omega) j hj,List.getElem?_append_right (by omega),List.getElem?_eq_getElem (by omega)];rfl
theorem zDL{ts:List Tr}{x:α}(ht:∀j,j<k->(ts[j]?.getD (.v (.bool false))).nt=enc x j)(h:l ++ [x]=m):TrE (.s fl k (l.length+1) (zAC (zFT enc d l) l.length (fun p q=>(ts[p*k+q]?.getD (.v (.bool false))).nt))) (.s fl k m.length (zFT enc d m)):=by
 refine zaF (x:=[x]) rfl (fun i hi j hj=>?_) h;have h0:i=0:=by simpa using hi
 subst h0;simpa using ht j hj
theorem zYh{n:Nat}(h:∀x j,j<k->(enc x j).kept):(Tr.s .o k n (zFT enc d l)).kept:=⟨by simp,fun i j _ hj=>h _ j hj⟩
end
def encP(x:Int×Int):Nat->Tr
 | 0=>.v (.int .i64 x.1)
 | 1=>.v (.int .i64 x.2)
 | _=>.v (.bool false)
abbrev ptL(l:List (Int×Int)):Nat->Nat->Tr:=zFT encP (0,0) l
theorem zbr(l:List (Int×Int)):ptL l=ptrsT (fun i=>(l[i]?.getD (0,0)).1) (fun i=>(l[i]?.getD (0,0)).2):=by
 funext i c
 match c with
 | 0=>rfl
 | 1=>rfl
 | c+2=>rfl
theorem zEo{a b:Int}:∀j,j<2->([Tr.v (Value.int .i64 a),Tr.v (Value.int .i64 b)][j]?.getD (.v (.bool false))).nt=encP (a,b) j
 | 0,_=>rfl
 | 1,_=>rfl
theorem zDK{n:Nat}{l:List (Int×Int)}:(Tr.s .o 2 n (ptL l)).kept:=zYh fun x j _=>by unfold encP;split<;>trivial
theorem zE2{n:Nat}{a b:Nat->Int}:(Tr.s .o 2 n (ptrsT a b)).kept↔True:=by
 refine⟨fun _=>trivial,fun _=>⟨by simp,fun i j _ _=>?_⟩⟩;unfold ptrsT;split<;>trivial
attribute [local go_sem] qX List.map_cons List.map_nil Tr.cv yp qD qs qq yo yn ym qp zAu zAw zAv zAr zAt zAs zCF zCH zCG qH zl qI zm qB qA qM yx zi zj qw qG tmpsOf zAf qv qF zAp yv yr yq yu stpP opds opd opdC kap zAG qC zh coreU bin zAb zB0 get put dlO fgt zA8 zA1 zA5 zA6 tyT yj yi Op.operands Call.operands evLoad evLen evStore evAlloc zAa and_true true_and List.append_nil List.nil_append List.cons_append Ret resCv zBs yQ cellM zBV zBw qY StW StR hpT hpO hpV hpA hpL hpC sg nin zB6 bdO tmW obW AvE CsE CvE Av.tup Av.ids Cv.ids inD ObE Ob.ids TrE.refl qE qt qu qJ qK qL zk ze zb yw zBc zB1 zAy evCall argL argOf qh outOb obO yL zy cvO tot Tr.own rid partsOf fillC zW zBU frz frz1 evBuildSlice zc trs Cv.tr evSlice Option.toArray_none Option.toArray_some evMakeSlice evAppend dstOf srcOf zBC zA7 zA4 zA2 zA3 ikT qn qm ql qk RetP RetN zBd qQ evLd evSt evStoreH zAX evAppendM evAppendT tlOf mvOf rowE shp evTake oOf evC evCallP evCallN evCallO unlast zAW zBB zAU argsF zB5 qy pmC varT vT evField evConv dB0 Option.bind_some Option.bind_none Option.map_some Option.map_none Option.isSome_some Option.isSome_none
abbrev slO(s:zM):Bool×List Tr:=(true,[.v (.int .i64 s.birth),.s .o 2 s.kn (ptrsT s.ks s.kb),.v (.string s.data)])
noncomputable def za7:za:=qZ (fun s:zM=>[slT s]) (fun s=>s.kn<=1000000) (fun s=>[slO s])
theorem zRP(s:zM):za7 [slT s]=some (s.kn<=1000000,[slO s]):=zO (fun l=>zJG (nth l 0 0) (nth l 0 1) (nth l 0 2)) (fun _=>rfl) s
theorem zMU:zp Tryz.prog 29 za7:=by
 refine zR zs GOk.nil zr Tryz.func29 rfl Tryz.ntmps29 Tryz.results29 3 ?_;rintro s hn;replace hn:s.kn<=1000000:=hn;refine⟨by simp,?_⟩;simp[go_sem,zFo,zEt,zE2];omega
noncomputable def zcQ:za:=qZ (fun q:Nat×(Nat->Int)×(Nat->Int)=>[(false,[.s .b 2 q.1 (ptrsT q.2.1 q.2.2)])]) (fun q=>q.1<=1000000) (fun q=>[(false,[.s .o 2 (kidsUp q.2.1 q.2.2 q.1).length (ptL (kidsUp q.2.1 q.2.2 q.1))])])
theorem zUK(n:Nat)(f g:Nat->Int):zcQ [(false,[.s .b 2 n (ptrsT f g)])]=some (n<=1000000,[(false,[.s .o 2 (kidsUp f g n).length (ptL (kidsUp f g n))])]):=zO (fun l=>(zFr (nth l 0 0),fun i=>qd (zCf (nth l 0 0) i 0),fun i=>qd (zCf (nth l 0 0) i 1))) (fun _=>rfl) (n,f,g)
theorem zOT:zp Tryz.prog 131 zcQ:=by
 refine zR zs (GOk.cons zD2 (zF Tryz.func95 rfl rfl) GOk.nil) zr Tryz.func131 rfl Tryz.ntmps131 Tryz.results131 5 ?_;rintro⟨n,f,g⟩ hn;replace hn:n<=1000000:=hn;refine⟨by simp,?_⟩;simp[go_sem];refine yF (fun k:Nat=>⟨[(3,true,.m false [.h 7]),(0,true,.m false [.s .b 2 n (ptrsT f g)]),(4,true,.i k)],[(7,.row 2 (kidsUp f g k).length (ptL (kidsUp f g k)))]⟩) (fun k=>n - k) (fun k=>k<=n) 0 (by simp[go_sem,kidsUp];exact zJg rfl) (by simp) ?_;rintro k hk;have hl:=zC0 f g k;simp[go_sem,qN (show k<=1000000000 by omega),zC2];refine⟨fun aA=>⟨aA,fun h=>⟨aA,by omega,k+1,by omega,by omega,by omega,zDL zEo (by simp[kidsUp,one,Nil,show ¬(f k=0/\g k=0)from fun e=>h e.1 e.2])⟩,fun h1 h2=>⟨k+1,by omega,by omega,by omega,zDM (by simp[kidsUp,one,Nil,h1,h2])⟩⟩,fun aA=>?_⟩;cases (show k=n from by omega);exact⟨zDM rfl,zDK⟩
noncomputable def za9:za:=qZ (fun q:Nat×(Nat->Int)×(Nat->Int)=>[(false,[.s .b 2 q.1 (ptrsT q.2.1 q.2.2)])]) (fun q=>q.1<=1000000) (fun q=>bR (kidsUp q.2.1 q.2.2 q.1≠[]))
theorem zXz(n:Nat)(f g:Nat->Int):za9 [(false,[.s .b 2 n (ptrsT f g)])]=some (n<=1000000,bR (kidsUp f g n≠[])):=zO (fun l=>(zFr (nth l 0 0),fun i=>qd (zCf (nth l 0 0) i 0),fun i=>qd (zCf (nth l 0 0) i 1))) (fun _=>rfl) (n,f,g)
theorem zSw:zp Tryz.prog 129 za9:=by
 refine zR zs (GOk.cons zOT (zF Tryz.func131 rfl rfl) GOk.nil) zr Tryz.func129 rfl Tryz.ntmps129 Tryz.results129 3 ?_;rintro⟨n,f,g⟩ hn;replace hn:n<=1000000:=hn;refine⟨by simp,?_⟩;simp[go_sem,zUK,hn];exact List.length_pos_iff
noncomputable def zUJ:za:=qZ (fun q:Int=>[iT q]) (fun _=>True) (fun q=>bR (0<=q/\q<=63))
theorem zGk(x:Int):zUJ [iT x]=some (True,bR (0<=x/\x<=63)):=zO (fun l=>qd (nth l 0 0)) (fun _=>rfl) x
theorem zJV:zp Tryz.prog 126 zUJ:=by
 refine zR zs (GOk.cons zHJ (zF Tryz.func45 rfl rfl) GOk.nil) zr Tryz.func126 rfl Tryz.ntmps126 Tryz.results126 3 ?_;rintro x -;refine⟨by simp,?_⟩;simp[go_sem,zMi]
noncomputable def zaw:za:=qZ (fun q:zE×Int×Int=>[poT q.1.n q.1.s q.1.hn q.1.h,pT q.2.1 q.2.2]) (fun q=>q.1.n<=1000000/\q.1.hn<=1000000) (fun q=>bR (zIP q.1 q.2.1 q.2.2))
theorem zRK(p:zE)(a b:Int):zaw [poT p.n p.s p.hn p.h,pT a b]=some (p.n<=1000000/\p.hn<=1000000,bR (zIP p a b)):=zO (fun l=>(zDm (nth l 0 0) (nth l 0 1),qd (nth l 1 0),qd (nth l 1 1))) (fun _=>rfl) (p,a,b)
theorem zSu:zp Tryz.prog 96 zaw:=by
 refine zR zs (GOk.cons zGh (zF Tryz.func123 rfl rfl) (GOk.cons zF6 (zF Tryz.func61 rfl rfl) GOk.nil)) zr Tryz.func96 rfl Tryz.ntmps96 Tryz.results96 5 ?_;rintro⟨p,a,b⟩ ⟨hn,hm⟩;replace hn:p.n<=1000000:=hn;replace hm:p.hn<=1000000:=hm;refine⟨by simp,?_⟩;simp[go_sem,zIi,zHq,hn,hm];exact⟨fun h=>⟨h.2.1,h.2.2.1⟩,and_assoc⟩
noncomputable def za0:za:=qZ (fun q:zE×Int×Int=>[poT q.1.n q.1.s q.1.hn q.1.h,pT q.2.1 q.2.2]) (fun q=>q.1.n<=1000000/\q.1.hn<=1000000) (fun q=>bR (zO3 q.1 q.2.1 q.2.2))
theorem zXr(p:zE)(a b:Int):za0 [poT p.n p.s p.hn p.h,pT a b]=some (p.n<=1000000/\p.hn<=1000000,bR (zO3 p a b)):=zO (fun l=>(zDm (nth l 0 0) (nth l 0 1),qd (nth l 1 0),qd (nth l 1 1))) (fun _=>rfl) (p,a,b)
theorem zSv:zp Tryz.prog 97 za0:=by
 refine zR zs (GOk.cons zGh (zF Tryz.func123 rfl rfl) (GOk.cons zF6 (zF Tryz.func61 rfl rfl) GOk.nil)) zr Tryz.func97 rfl Tryz.ntmps97 Tryz.results97 5 ?_;rintro⟨p,a,b⟩ ⟨hn,hm⟩;replace hn:p.n<=1000000:=hn;replace hm:p.hn<=1000000:=hm;refine⟨by simp,?_⟩;simp[go_sem,zIi,zHq,hn,hm];exact⟨fun h=>⟨h.2.1,h.2.2.1⟩,and_assoc⟩
def zGT(bs:Nat)(kb:Nat->Nat)(n:Nat)(f:Nat->zM)(k:Nat):Prop:=(0<n/\k=bs)\/∃i,i<n/\0<(f i).kn/\k=kb i
def zAE(w:World)(lo hi:Nat)(v0 v1:Value)(p:zE):Prop:=
 ∃(bs hb:Nat) (kb:Nat->Nat) (kv:Nat->Value),zCd w bs kb kv v0 p.n p.s/\zHe kb p.n p.s/\zDa w hb v1 p.hn p.h/\(0<p.hn->¬zGT bs kb p.n p.s hb)/\
  ∀k,zGT bs kb p.n p.s k\/(0<p.hn/\k=hb)->lo<=k/\k<hi
theorem zAE.at{w:World}{lo hi:Nat}{v0 v1:Value}{p:zE}(h:zAE w lo hi v0 v1 p):zCV w lo hi v0 v1 p:=by
 obtain⟨bs,hb,kb,kv,h1,h2,h3,h4,h5⟩:=h;exact⟨h1.at fun h0=>⟨h5 _ (Or.inl (Or.inl ⟨h0,rfl⟩)),fun i hi h=>h5 _ (Or.inl (Or.inr ⟨i,hi,h,rfl⟩))⟩,h3.at fun h0=>h5 _ (Or.inr ⟨h0,rfl⟩)⟩
theorem zAE.zcw{w w':World}{lo hi:Nat}{v0 v1:Value}{p:zE}(h:zAE w lo hi v0 v1 p)(t:Below w.heap.size w w'):zAE w' lo hi v0 v1 p:=by
 obtain⟨bs,hb,kb,kv,h1,h2,h3,h4,h5⟩:=h;exact⟨bs,hb,kb,kv,h1.zcw t,h2,h3.zcw t,h4,h5⟩
theorem zAE.zcx{S:Nat->Prop}{w w':World}{lo hi:Nat}{v0 v1:Value}{p:zE}(h:zAE w lo hi v0 v1 p)(t:zJ S w w')(hs:∀k,S k->k<lo\/hi<=k):zAE w' lo hi v0 v1 p:=by
 obtain⟨bs,hb,kb,kv,h1,h2,h3,h4,h5⟩:=h;have out:∀k,zGT bs kb p.n p.s k\/(0<p.hn/\k=hb)->¬S k:=fun k hk hx=>by
  have a:=h5 k hk;have b:=hs k hx;omega
 exact⟨bs,hb,kb,kv,h1.zcx t (fun h0=>out _ (Or.inl (Or.inl ⟨h0,rfl⟩))) (fun i hi h=>out _ (Or.inl (Or.inr ⟨i,hi,h,rfl⟩))),h2,h3.zcx t (fun h0=>out _ (Or.inr ⟨h0,rfl⟩)),h4,h5⟩
theorem zCE.wide{w:World}{lo hi bA aA:Nat}{v:Value}{n:Nat}{f:Nat->Int}(h:zCE w lo hi v n f)(h1:bA<=lo)(h2:hi<=aA):zCE w bA aA v n f:=by
 obtain⟨h0,a,cap,hv,cA,hc⟩:=h;refine⟨h0,a,cap,hv,cA,fun hn=>?_⟩;obtain⟨b,off,ha,g1,g2,g3⟩:=hc hn;exact⟨b,off,ha,by omega,by omega,g3⟩
theorem qo.wide{w:World}{lo hi bA aA:Nat}{v:Value}{n:Nat}{f g:Nat->Int}(h:qo w lo hi v n f g)(h1:bA<=lo)(h2:hi<=aA):qo w bA aA v n f g:=by
 obtain⟨h0,a,cap,hv,cA,hc⟩:=h;refine⟨h0,a,cap,hv,cA,fun hn=>?_⟩;obtain⟨b,off,ha,g1,g2,g3⟩:=hc hn;exact⟨b,off,ha,by omega,by omega,g3⟩
theorem zAE.wide{w:World}{lo hi bA aA:Nat}{v0 v1:Value}{p:zE}(h:zAE w lo hi v0 v1 p)(h1:bA<=lo)(h2:hi<=aA):zAE w bA aA v0 v1 p:=by
 obtain⟨bs,hb,kb,kv,g1,g2,g3,g4,g5⟩:=h;exact⟨bs,hb,kb,kv,g1,g2,g3,g4,fun k hk=>by have:=g5 k hk;omega⟩
theorem zAE.zc4{w:World}{lo hi:Nat}{v0 v1:Value}{p:zE}(h:zAE w lo hi v0 v1 p):∃a c a' c',v0 = .slice a p.n c/\v1 = .slice a' p.hn c':=by
 obtain⟨bs,hb,kb,kv,⟨_,a,c,h1,_⟩,h2,⟨_,a',c',h3,_,_⟩,h4,h5⟩:=h;exact⟨a,c,a',c',h1,h3⟩
theorem zCV.zc4{w:World}{lo hi:Nat}{v0 v1:Value}{p:zE}(h:zCV w lo hi v0 v1 p):∃a c a' c',v0 = .slice a p.n c/\v1 = .slice a' p.hn c':=by
 obtain⟨⟨_,a,c,h1,_⟩,⟨_,a',c',h3,_⟩⟩:=h;exact⟨a,c,a',c',h1,h3⟩
def zTf(p:zE)(w:World)(e:Ending)(w':World):Prop:=∃v0 v1,e = .returned (.agg #[v0,v1])/\zAE w' w.heap.size w'.heap.size v0 v1 p/\Below w.heap.size w w'
def zCU:zM:={birth:=0,kn:=0,ks:=fun _=>0,kb:=fun _=>0,data:=⟨#[]⟩}
def zEi(n:Nat):zE:={n:=n,s:=fun _=>zCU,hn:=0,h:=fun _=>0}
theorem zRw{bs:Nat}{kb:Nat->Nat}{n k:Nat}:zGT bs kb n (fun _=>zCU) k↔0<n/\k=bs:=by
 constructor
 ·rintro(h | ⟨i,_,h0,_⟩)
  ·exact h
  ·exact absurd h0 (by simp[zCU])
 ·exact Or.inl
theorem zYH{w:World}{lo hi g n:Nat}{v0:Value}(hn:n<=maxLen)(hv:∃a cap,v0 = .slice a n cap/\n<=cap/\(0<n->a=some ⟨g,0,none⟩/\lo<=g/\g<hi))
  (hc:∀i,i<n->zo w g (0+i*3) (.int .i64 0)/\zo w g (0+i*3+1) (.slice none 0 0)/\zo w g (0+i*3+2) (.string ⟨#[]⟩)) :
  zAE w lo hi v0 (.slice none 0 0) (zEi n):=by
 obtain⟨a,cap,rfl,aA,ha⟩:=hv;refine⟨g,0,fun _=>0,fun _=>.slice none 0 0,⟨hn,a,cap,rfl,aA,fun h0=>⟨0,(ha h0).1,fun i hi=>?_⟩⟩,fun i j _ _ _ h0 _=>absurd h0 (by simp[zEi,zCU]),⟨Nat.zero_le _,none,0,rfl,Nat.le_refl _,fun h=>absurd h (Nat.lt_irrefl _),fun h=>absurd h (Nat.lt_irrefl _)⟩,fun h=>absurd h (Nat.lt_irrefl _),?_⟩
 ·exact⟨(hc i hi).1,(hc i hi).2.1,(hc i hi).2.2,⟨Nat.zero_le _,none,0,rfl,Nat.le_refl _,fun h=>absurd h (Nat.lt_irrefl _)⟩,Nat.zero_le _,fun h=>absurd h (Nat.lt_irrefl _)⟩
 ·rintro k (h | h)
  ·obtain⟨h0,rfl⟩:=zRw.1 h;exact(ha h0).2
  ·exact absurd h.1 (Nat.lt_irrefl _)
def zCg(s:zM):Nat:=s.kn+s.data.size
def zBK(f:Nat->zM):Nat->Nat
 | 0=>0
 | k+1=>zBK f k+zCg (f k)
def yD(p:zE):Nat:=p.n+zBK p.s p.n+p.hn
theorem zNG(f:Nat->zM){j n:Nat}(h:j<n):zCg (f j)<=zBK f n:=by
 induction n with
 | zero=>omega
 | succ n ih=>
  show _<=zBK f n+zCg (f n);by_cases e:j=n
  ·subst e;omega
  ·have:=ih (by omega);omega
theorem zVd:(Tryz.prog.info? 2).map (fun i=>(i.zero,i.size,i.bytes))=some (some (.int .i64 0),1,8):=by kernel_rfl
theorem zVe:(Tryz.prog.info? 58).map (fun i=>(i.zero,i.size,i.bytes))=some (some (.agg #[.int .i64 0,.slice none 0 0,.string ⟨#[]⟩]),3,48):=by kernel_rfl
end Go.Proofs.YtbplmbafodlboaaGreatDoor
