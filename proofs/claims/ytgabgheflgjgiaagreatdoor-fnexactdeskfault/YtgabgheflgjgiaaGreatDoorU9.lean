/- A part of the proof. -/
import Derived.Test.YtgabgheflgjgiaaGreatDoorU8
import Derived.Lib.SliceRun
import Derived.Deep.DeepCutAuto
set_option linter.unusedVariables false
set_option maxRecDepth 20000
set_option maxHeartbeats 4000000
namespace Go.Proofs.YtgabgheflgjgiaaGreatDoor
open Go.RowKit
theorem zF{P:Prop}(h:P):Hid P:=h
theorem zB1(w:World)(a0 a1 x0 x1:Value)(t1 t2:TypeId) :
  zk ((w.alloc (.cells #[a0,a1] t1)).alloc (.cells #[x0,x1] t2)) w.heap.size a0 a1/\zk ((w.alloc (.cells #[a0,a1] t1)).alloc (.cells #[x0,x1] t2)) (w.heap.size+1) x0 x1/\
  Below w.heap.size w ((w.alloc (.cells #[a0,a1] t1)).alloc (.cells #[x0,x1] t2))/\((w.alloc (.cells #[a0,a1] t1)).alloc (.cells #[x0,x1] t2)).heap.size=w.heap.size+2:=by
 refine⟨(zk.zOt w a0 a1 t1).zOp (zC _ _),?_,zA (zC _ _) (zC _ _),by simp⟩;have:=zk.zOt (w.alloc (.cells #[a0,a1] t1)) x0 x1 t2;rw[World.size_alloc]at this;exact this
theorem zCb(v0 v1:Value)(lo hi:Nat)(p:zI)(xs xb:Int)(w:World)(h1:qm w lo hi v0 v1 p) :
  Calls Tryz.prog 163 #[.agg #[v0,v1],.agg #[.int .i64 xs,.int .i64 xb]] w fun e w'=>zK (zAY p xs xb) e/\Below w.heap.size w w':=by
 have Hp:=zF h1;obtain⟨a,c,a',c',rfl,rfl⟩:∃a c a' c',v0 = .slice a p.n c/\v1 = .slice a' p.hn c':=by
  obtain⟨⟨_,a,c,h1,_⟩,⟨_,a',c',h3,_⟩⟩:=h1;exact⟨a,c,a',c',h1,h3⟩
 clear h1;have gA:=zB1 w (.slice a p.n c) (.slice a' p.hn c') (.int .i64 xs) (.int .i64 xb) 36 99;go_enter Tryz.func163,Tryz.ntmps163;go_wp2_with fail;generalize (w.alloc (.cells #[.slice a p.n c,.slice a' p.hn c'] 36)).alloc (.cells #[.int .i64 xs,.int .i64 xb] 99)=W at gA ⊢;obtain⟨hB,hX,fA,hz⟩:=gA;refine(zCm _ _ lo hi p xs xb _ (Hp.out.zOp fA)).mono ?_;rintro e w1 ⟨⟨t,rfl,ht⟩,dA⟩;have jA:=zF (hB.zOp dA);have kA:=zF (hX.zOp dA);have bA:=zA fA dA;clear hB hX fA dA;by_cases aA:zy p xs xb
 ·obtain rfl:t=true:=ht.2 aA;have eA:=zF aA;obtain⟨k,rfl⟩:=Int.eq_ofNat_of_zero_le aA.2.1;have hk:k<p.n:=(by have:=aA.2.2.1;omega);have lA:(k:Int)<(p.n:Int):=(by omega);clear ht aA;obtain⟨b,off,ka,kc,rfl,hs⟩:=(Hp.out.1.zOp bA).cells hk;obtain⟨q0,q1,q2,_⟩:=hs;obtain⟨⟨x0,x1⟩,⟨x2,x3⟩⟩:=jA.out;obtain⟨⟨y0,y1⟩,⟨y2,y3⟩⟩:=kA.out;by_cases cA:0<(p.s k).kn
  ·have HK:=zF cA;have f1:(0:Int)<((p.s k).kn:Int):=by first | omega | simp[cA]
   clear cA;go_wp2_with fail;refine(zAU _ p.hn lo hi p.h _ _ (Hp.out.2.zOp bA)).mono ?_;rintro e w2 ⟨⟨t2,rfl,iA⟩,rfl⟩;have HT:=zF iA;clear iA x0 x1 x2 x3 y0 y1 y2 y3 q0 q1 q2;go_wp2;go_ret;refine⟨?_,bA⟩;by_cases hh:Has p.hn p.h (k:Int)
   ·obtain rfl:t2=true:=HT.out.2 hh;exact zK.no fun h=>h.2.2 hh
   ·obtain rfl:t2=false:=zP HT.out hh;refine zK.yes ⟨eA.out,?_,hh⟩;rw[Int.toNat_natCast];exact HK.out
  ·have HK:=zF cA;have f1:¬(0:Int)<((p.s k).kn:Int):=by first | omega | (simp;omega)
   clear cA;go_wp2;go_ret;refine⟨zK.no fun h=>?_,bA⟩;have:=h.2.1;rw[Int.toNat_natCast]at this;exact HK.out this
 ·obtain rfl:t=false:=zP ht aA;have eA:=zF aA;clear ht aA;go_wp2;go_ret;exact⟨zK.no fun h=>eA.out h.1,bA⟩
theorem zDj(v0 v1:Value)(lo hi:Nat)(p:zI)(xs xb:Int)(w:World)(h1:qm w lo hi v0 v1 p) :
  Calls Tryz.prog 164 #[.agg #[v0,v1],.agg #[.int .i64 xs,.int .i64 xb]] w fun e w'=>zK (zA9 p xs xb) e/\Below w.heap.size w w':=by
 have Hp:=zF h1;obtain⟨a,c,a',c',rfl,rfl⟩:∃a c a' c',v0 = .slice a p.n c/\v1 = .slice a' p.hn c':=by
  obtain⟨⟨_,a,c,h1,_⟩,⟨_,a',c',h3,_⟩⟩:=h1;exact⟨a,c,a',c',h1,h3⟩
 clear h1;have gA:=zB1 w (.slice a p.n c) (.slice a' p.hn c') (.int .i64 xs) (.int .i64 xb) 36 99;go_enter Tryz.func164,Tryz.ntmps164;go_wp2_with fail;generalize (w.alloc (.cells #[.slice a p.n c,.slice a' p.hn c'] 36)).alloc (.cells #[.int .i64 xs,.int .i64 xb] 99)=W at gA ⊢;obtain⟨hB,hX,fA,hz⟩:=gA;refine(zCm _ _ lo hi p xs xb _ (Hp.out.zOp fA)).mono ?_;rintro e w1 ⟨⟨t,rfl,ht⟩,dA⟩;have jA:=zF (hB.zOp dA);have kA:=zF (hX.zOp dA);have bA:=zA fA dA;clear hB hX fA dA;by_cases aA:zy p xs xb
 ·obtain rfl:t=true:=ht.2 aA;have eA:=zF aA;obtain⟨k,rfl⟩:=Int.eq_ofNat_of_zero_le aA.2.1;have hk:k<p.n:=(by have:=aA.2.2.1;omega);have lA:(k:Int)<(p.n:Int):=(by omega);clear ht aA;obtain⟨b,off,ka,kc,rfl,hs⟩:=(Hp.out.1.zOp bA).cells hk;obtain⟨q0,q1,q2,_⟩:=hs;obtain⟨⟨x0,x1⟩,⟨x2,x3⟩⟩:=jA.out;obtain⟨⟨y0,y1⟩,⟨y2,y3⟩⟩:=kA.out;by_cases cA:(p.s k).kn=0
  ·have HK:=zF cA;have f1:(((p.s k).kn:Int) == 0)=true:=by first | omega | simp[cA]
   clear cA;go_wp2_with fail;refine(zAU _ p.hn lo hi p.h _ _ (Hp.out.2.zOp bA)).mono ?_;rintro e w2 ⟨⟨t2,rfl,iA⟩,rfl⟩;have HT:=zF iA;clear iA x0 x1 x2 x3 y0 y1 y2 y3 q0 q1 q2;go_wp2;go_ret;refine⟨?_,bA⟩;by_cases hh:Has p.hn p.h (k:Int)
   ·obtain rfl:t2=true:=HT.out.2 hh;exact zK.no fun h=>h.2.2 hh
   ·obtain rfl:t2=false:=zP HT.out hh;refine zK.yes ⟨eA.out,?_,hh⟩;rw[Int.toNat_natCast];exact HK.out
  ·have HK:=zF cA;have f1:(((p.s k).kn:Int) == 0)=false:=by first | omega | (simp;omega)
   clear cA;go_wp2;go_ret;refine⟨zK.no fun h=>?_,bA⟩;have:=h.2.1;rw[Int.toNat_natCast]at this;exact HK.out this
 ·obtain rfl:t=false:=zP ht aA;have eA:=zF aA;clear ht aA;go_wp2;go_ret;exact⟨zK.no fun h=>eA.out h.1,bA⟩
def zNP(s:zO)(w:World)(e:Ending)(w':World):Prop:=
 ∃kv kb,e = .returned (.agg #[.int .i64 s.zO1,kv,.string s.data])/\ze w' kb kv s.kn s.ks s.kb/\(0<s.kn->w.heap.size<=kb/\kb<w'.heap.size)/\Below w.heap.size w w'
def kc(f g:Nat->Int):Nat->List Value
 | 0=>[]
 | k+1=>kc f g k ++ [.int .i64 (f k),.int .i64 (g k)]
theorem zEZ(f g:Nat->Int)(k:Nat):(kc f g k).length=k*2:=by
 induction k with
 | zero=>rfl
 | succ k ih=>simp[kc,ih];omega
theorem zMg(f g:Nat->Int)(k i r:Nat)(hi:i<k)(hr:r<2):(kc f g k)[i*2+r]? = [Value.int .i64 (f i),.int .i64 (g i)][r]?:=by
 induction k with
 | zero=>omega
 | succ k ih=>
  unfold kc;by_cases e:i<k
  ·rw[List.getElem?_append_left (by rw[zEZ];omega)];exact ih e
  ·obtain rfl:i=k:=(by omega);rw[List.getElem?_append_right (by rw[zEZ];omega),zEZ];congr 1;omega
theorem zKG(f g:Nat->Int)(k:Nat):∀u∈kc f g k,u.oneCell'=true:=by
 induction k with
 | zero=>intro u hu;simp[kc]at hu
 | succ k ih=>
  intro u hu;simp only[kc,List.mem_append,List.mem_cons,List.not_mem_nil,or_false]at hu;rcases hu with hu | rfl | rfl
  ·exact ih u hu
  ·rfl
  ·rfl
theorem zGl{w:World}{b off:Nat}{f g:Nat->Int}{n:Nat}(h:∀i,i<n->w.cell? ⟨b,off+i*2,none⟩=some (.int .i64 (f i))/\w.cell? ⟨b,off+i*2+1,none⟩=some (.int .i64 (g i))) :
  ∀j u,(kc f g n)[j]?=some u->w.cell? ((⟨b,off,none⟩:Addr).add j)=some u:=by
 intro j u hj;have bA:j<n*2:=by
  have:=(List.getElem?_eq_some_iff.1 hj).1
  rwa [zEZ]at this
 have aA:(⟨b,off,none⟩:Addr).add j=⟨b,off+j,none⟩:=by unfold Addr.add;split<;>simp_all
 rw[aA];obtain⟨c0,c1⟩:=h (j / 2) (by omega);have e:=zMg f g n (j / 2) (j % 2) (by omega) (by omega);rw[show j / 2*2+j % 2=j by omega,hj]at e;rcases(by omega:j % 2=0\/j % 2=1)with hm | hm
 ·rw[hm]at e;simp at e;subst e;rw[show off+j=off+j / 2*2 by omega];exact c0
 ·rw[hm]at e;simp at e;subst e;rw[show off+j=off+j / 2*2+1 by omega];exact c1
theorem zDF{w:World}{base e n:Nat}{v:Value}{f g:Nat->Int}(hm:n<=maxLen)(h:w.ownsRow base e 2 v n (kc f g n)):∃kb,ze w kb v n f g/\(0<n->base<=kb/\kb<w.heap.size):=by
 by_cases h0:0<n
 ·obtain⟨gb,cap,rfl,bA,hb,cA,aA⟩:=qp h h0;refine⟨gb,⟨hm,_,cap,rfl,bA,fun _=>⟨0,rfl,fun i hi=>⟨?_,?_⟩⟩⟩,fun _=>⟨hb,cA⟩⟩
  ·have:=aA (i*2+0) _ (zMg f g n i 0 hi (by omega));simpa using this
  ·have:=aA (i*2+1) _ (zMg f g n i 1 hi (by omega));simpa using this
 ·obtain⟨a,cap,rfl,bA⟩:=zX h;exact⟨0,⟨hm,a,cap,rfl,bA,fun h=>absurd h h0⟩,fun h=>absurd h h0⟩
theorem zG8{P:Program}{w:World}(base:Nat)(t ty e:TypeId)(i:TypeInfo)(size c:Nat)(ht:P.underlying t=some (.slice e))(hi:P.info? e=some i)
  (v:Value) (n:Nat) (xs:List Value) (aA:w.ownsRow base e size v n xs) :
  (Builtin.append_ #[t,t] ty #[v,.slice none 0 c]).run P w = .ok v w:=by
 rcases aA.2 with⟨rfl,rfl⟩ | ⟨g,cap,cA,rfl,_,_,bA,_⟩
 ·simp[Builtin.append_,run_underlying ht,sizeOf,typeInfo,hi,Builtin.lenOf,Builtin.firstCells]
 ·simp[Builtin.append_,run_underlying ht,sizeOf,typeInfo,hi,Builtin.lenOf,Builtin.firstCells,bA,storeCells]
theorem zFG{P:Program}{w:World}{cA:Array Oper}{zO8:List Oper}{o:Oper}{a:Act}{Q:Exit->Act->World->Prop}(dA:o.guard=none)(s x:Operand)(t:TypeId)
  (ho:o.op = .call {callee:=.builtin .append,args:=#[s,x],argTypes:=#[t,t]})
  (base:Nat) (e:TypeId) (i:TypeInfo) (size c m:Nat) (ht:P.underlying t=some (.slice e)) (hi:P.info? e=some i)
  (v:Value) (n:Nat) (xs:List Value) (hs:a.eval s=v) (aA:w.ownsRow base e size v n xs) (hm:m=0) (hx:a.eval x = .slice none m c)
  (h:wpList P cA Q zO8 (a.put o.dst v) w):wpList P cA Q (o :: zO8) a w:=by
 subst hm;refine wpList_plain dA fun K hK=>?_
 have bA:=zG8 (P:=P) (w:=w) base t o.type e i size c ht hi v n xs aA;unfold Oper.wp;simp[execOp,ho,resolve,invoke,builtin,hs,hx,bA,Result.andThen];exact hK _ _ h
theorem yl{P:Program}{w:World}(base:Nat)(t ty e:TypeId)(i:TypeInfo)(size c:Nat)(ao:Option Addr)(ht:P.underlying t=some (.slice e))(hi:P.info? e=some i)
  (v:Value) (n:Nat) (xs:List Value) (aA:w.ownsRow base e size v n xs) :
  (Builtin.append_ #[t,t] ty #[v,.slice ao 0 c]).run P w = .ok v w:=by
 rcases aA.2 with⟨rfl,rfl⟩ | ⟨g,cap,cA,rfl,_,_,bA,_⟩
 ·cases ao<;>simp[Builtin.append_,run_underlying ht,sizeOf,typeInfo,hi,Builtin.lenOf,Builtin.firstCells,loadCells,loadCellsFrom]
 ·cases ao<;>simp[Builtin.append_,run_underlying ht,sizeOf,typeInfo,hi,Builtin.lenOf,Builtin.firstCells,bA,storeCells,loadCells,loadCellsFrom]
theorem zEi{P:Program}{w:World}{cA:Array Oper}{zO8:List Oper}{o:Oper}{a:Act}{Q:Exit->Act->World->Prop}(dA:o.guard=none)(s x:Operand)(t:TypeId)
  (ho:o.op = .call {callee:=.builtin .append,args:=#[s,x],argTypes:=#[t,t]})
  (base:Nat) (e:TypeId) (i:TypeInfo) (size c m:Nat) (ao:Option Addr) (ht:P.underlying t=some (.slice e)) (hi:P.info? e=some i)
  (v:Value) (n:Nat) (xs:List Value) (hs:a.eval s=v) (aA:w.ownsRow base e size v n xs) (hm:m=0) (hx:a.eval x = .slice ao m c)
  (h:wpList P cA Q zO8 (a.put o.dst v) w):wpList P cA Q (o :: zO8) a w:=by
 subst hm;refine wpList_plain dA fun K hK=>?_
 have bA:=yl (P:=P) (w:=w) base t o.type e i size c ao ht hi v n xs aA;unfold Oper.wp;simp[execOp,ho,resolve,invoke,builtin,hs,hx,bA,Result.andThen];exact hK _ _ h
theorem zDg:(Tryz.prog.info? 99).map (fun i=>(i.zero,i.size,i.bytes))=some (some (.agg #[.int .i64 0,.int .i64 0]),2,16):=by kernel_rfl
def sc(f:Nat->zO)(kv:Nat->Value):Nat->List Value
 | 0=>[]
 | k+1=>sc f kv k ++ [.int .i64 (f k).zO1,kv k,.string (f k).data]
theorem zKY(f:Nat->zO)(kv:Nat->Value)(k:Nat):(sc f kv k).length=k*3:=by
 induction k with
 | zero=>rfl
 | succ k ih=>simp[sc,ih];omega
theorem zM7(f:Nat->zO)(kv:Nat->Value)(k i r:Nat)(hi:i<k)(hr:r<3):(sc f kv k)[i*3+r]? = [Value.int .i64 (f i).zO1,kv i,.string (f i).data][r]?:=by
 induction k with
 | zero=>omega
 | succ k ih=>
  unfold sc;by_cases e:i<k
  ·rw[List.getElem?_append_left (by rw[zKY];omega)];exact ih e
  ·obtain rfl:i=k:=(by omega);rw[List.getElem?_append_right (by rw[zKY];omega),zKY];congr 1;omega
theorem zM8(f:Nat->zO){kv aA:Nat->Value}{k:Nat}(h:∀i,i<k->kv i=aA i):sc f kv k=sc f aA k:=by
 induction k with
 | zero=>rfl
 | succ k ih=>
  unfold sc;rw[ih (fun i hi=>h i (by omega)),h k (by omega)]
theorem zBp{w w1:World}{row:Option Nat}(h:w.grownBy w1 row):zE (fun b=>row=some b) w w1:=⟨h.os,h.tape,h.output,h.size,fun k hk hs=>h.block k hk (fun e=>hs e.symm)⟩
theorem zDe{w w1:World}(h:Below w.heap.size w w1)(row:Option Nat):w.grownBy w1 row:=⟨h.os,h.tape,h.output,h.size,fun k hk _=>h.block k hk⟩
structure zD9 (w:World) (lo k:Nat) (f:Nat->zO) (kb:Nat->Nat) (kv:Nat->Value) (v:Value):Prop where
 row:w.ownsRow lo 128 3 v k (sc f kv k)
 kids:∀j,j<k->ze w (kb j) (kv j) (f j).kn (f j).ks (f j).kb
 zO7:∀j,j<k->0<(f j).kn->lo<=kb j/\kb j<w.heap.size/\v.ownBlock≠some (kb j)
 zO4:zCp kb k f
 zO6:∀j,j<k->(f j).data.size<=maxLen
theorem zD9.nil(w:World)(lo:Nat)(f:Nat->zO):zD9 w lo 0 f (fun _=>0) (fun _=>.slice none 0 0) (.slice none 0 0):=
 ⟨World.ownsRow_nil _ _ _ _,fun j hj=>absurd hj (Nat.not_lt_zero _),fun j hj=>absurd hj (Nat.not_lt_zero _),fun i j hi=>absurd hi (Nat.not_lt_zero _),fun j hj=>absurd hj (Nat.not_lt_zero _)⟩
theorem zD9.zOp{w w':World}{lo k:Nat}{f:Nat->zO}{kb:Nat->Nat}{kv:Nat->Value}{v:Value}(h:zD9 w lo k f kb kv v)(t:Below w.heap.size w w'):zD9 w' lo k f kb kv v:=
 ⟨h.row.kept (zDe t none) (by cases hv:v.ownBlock<;>simp),fun j hj=>(h.kids j hj).zOp t,fun j hj h0=>by have h1:=h.zO7 j hj h0;have:=t.size;exact⟨h1.1,by omega,h1.2.2⟩,h.zO4,h.zO6⟩
theorem zD9.next{w w1:World}{lo k:Nat}{f:Nat->zO}{kb:Nat->Nat}{kv:Nat->Value}{v:Value}(h:zD9 w lo k f kb kv v){nb g cap:Nat}{nv:Value}(hp:ze w nb nv (f k).kn (f k).ks (f k).kb)
  (aA:0<(f k).kn->lo<=nb/\nb<w.heap.size/\v.ownBlock≠some nb/\∀j,j<k->0<(f j).kn->kb j≠nb) (hs:(f k).data.size<=maxLen)
  (bA:w1.ownsRow lo 128 3 (.slice (some ⟨g,0,none⟩) (k+1) cap) (k+1) (sc f kv k ++ [.int .i64 (f k).zO1,nv,.string (f k).data])) (hg:w.grownBy w1 v.ownBlock) (dA:v.ownBlock=some g\/g=w.heap.size) :
  zD9 w1 lo (k+1) f (fun j=>if j=k then nb else kb j) (fun j=>if j=k then nv else kv j) (.slice (some ⟨g,0,none⟩) (k+1) cap):=by
 have t:=zBp hg;have iA:=t.size;have cA:∀b,b<w.heap.size->v.ownBlock≠some b->(Value.slice (some ⟨g,0,none⟩) (k+1) cap).ownBlock≠some b:=fun b hb gA e=>by
  have eA:g=b:=(by simpa[Value.ownBlock]using e);rcases dA with hx | hx
  ·exact gA (by rw[hx,eA])
  ·omega
 refine⟨?_,fun j hj=>?_,fun j hj h0=>?_,fun i j hi hj fA h1 h2=>?_,fun j hj=>?_⟩
 ·have e:sc f (fun j=>if j=k then nv else kv j) (k+1)=sc f kv k ++ [.int .i64 (f k).zO1,nv,.string (f k).data]:=by
   show sc f _ k ++ [.int .i64 (f k).zO1,(if k=k then nv else kv k),.string (f k).data]=_;rw[if_pos rfl,zM8 f (fun i hi=>if_neg (by omega))]
  rw[e];exact bA
 ·by_cases e:j=k
  ·subst e;simp only[if_true];exact hp.zOr t (fun h0=>(aA h0).2.2.1)
  ·simp only[if_neg e];exact(h.kids j (by omega)).zOr t (fun h0=>(h.zO7 j (by omega) h0).2.2)
 ·by_cases e:j=k
  ·subst e;simp only[if_true];obtain⟨h1,h2,h3,_⟩:=aA h0;exact⟨h1,by omega,cA _ h2 h3⟩
  ·simp only[if_neg e];obtain⟨h1,h2,h3⟩:=h.zO7 j (by omega) h0;exact⟨h1,by omega,cA _ h2 h3⟩
 ·show(if i=k then nb else kb i)≠(if j=k then nb else kb j);by_cases e1:i=k
  ·by_cases e2:j=k
   ·omega
   ·rw[if_pos e1,if_neg e2];subst e1;exact fun e=>(aA h1).2.2.2 j (by omega) h2 e.symm
  ·by_cases e2:j=k
   ·rw[if_neg e1,if_pos e2];subst e2;exact(aA h2).2.2.2 i (by omega) h1
   ·rw[if_neg e1,if_neg e2];exact h.zO4 i j (by omega) (by omega) fA h1 h2
 ·by_cases e:j=k
  ·subst e;exact hs
  ·exact h.zO6 j (by omega)
theorem zD9.put{w:World}{lo k:Nat}{f:Nat->zO}{kb:Nat->Nat}{kv:Nat->Value}{v:Value}(h:zD9 w lo k f kb kv v){b o:Nat}(hb:b<lo)(u:Value):zD9 (w.setCell ⟨b,o,none⟩ u) lo k f kb kv v:=
 ⟨ownsRow_setCell_below h.row hb u,fun j hj=>(h.kids j hj).zOr (zE.put _ _ _ _) (fun h0 e=>by have:=h.zO7 j hj h0;omega),fun j hj h0=>by rw[World.size_setCell];exact h.zO7 j hj h0,h.zO4,h.zO6⟩
theorem zD9.own{w:World}{lo n:Nat}{f:Nat->zO}{kb:Nat->Nat}{kv:Nat->Value}{v:Value}(h:zD9 w lo n f kb kv v)(hn:n<=maxLen) :
  ∃bs,zAC w bs kb kv v n f/\∀k,zBS bs kb n f k->lo<=k/\k<w.heap.size:=by
 by_cases h0:0<n
 ·obtain⟨g,cap,rfl,bA,hb,dA,aA⟩:=qp h.row h0;refine⟨g,⟨hn,_,cap,rfl,bA,fun _=>⟨0,rfl,fun i hi=>⟨?_,?_,?_,h.kids i hi,h.zO6 i hi,fun hk e=>(h.zO7 i hi hk).2.2 (by rw[e];rfl)⟩⟩⟩,fun k hk=>?_⟩
  ·have:=aA (i*3+0) _ (zM7 f kv n i 0 hi (by omega));simpa using this
  ·have:=aA (i*3+1) _ (zM7 f kv n i 1 hi (by omega));simpa using this
  ·have:=aA (i*3+2) _ (zM7 f kv n i 2 hi (by omega));simpa using this
  ·rcases hk with⟨_,rfl⟩ | ⟨i,hi,cA,rfl⟩
   ·exact⟨hb,dA⟩
   ·exact⟨(h.zO7 i hi cA).1,(h.zO7 i hi cA).2.1⟩
 ·obtain⟨a,cap,rfl,bA⟩:=zX h.row;refine⟨0,⟨hn,a,cap,rfl,bA,fun hx=>absurd hx h0⟩,fun k hk=>?_⟩;rcases hk with⟨hx,_⟩ | ⟨i,hi,_⟩
  ·exact absurd hx h0
  ·omega
def ic(f:Nat->Int):Nat->List Value
 | 0=>[]
 | k+1=>ic f k ++ [.int .i64 (f k)]
theorem zC9(f:Nat->Int)(k:Nat):(ic f k).length=k*1:=by
 induction k with
 | zero=>rfl
 | succ k ih=>simp[ic,ih]
theorem zKy(f:Nat->Int)(k i:Nat)(hi:i<k):(ic f k)[i]?=some (Value.int .i64 (f i)):=by
 induction k with
 | zero=>omega
 | succ k ih=>
  unfold ic;by_cases e:i<k
  ·rw[List.getElem?_append_left (by rw[zC9];omega)];exact ih e
  ·obtain rfl:i=k:=(by omega);rw[List.getElem?_append_right (by rw[zC9];omega),zC9];simp
theorem zOI(f:Nat->Int)(k:Nat):∀u∈ic f k,u.oneCell'=true:=by
 induction k with
 | zero=>intro u hu;simp[ic]at hu
 | succ k ih=>
  intro u hu;simp only[ic,List.mem_append,List.mem_cons,List.not_mem_nil,or_false]at hu;rcases hu with hu | rfl
  ·exact ih u hu
  ·rfl
theorem add_lit(b off j:Nat):(⟨b,off,none⟩:Addr).add j=⟨b,off+j,none⟩:=by unfold Addr.add;split<;>simp_all
theorem zMb{w:World}{b off:Nat}{f:Nat->Int}{n:Nat}(h:∀i,i<n->w.cell? ⟨b,off+i,none⟩=some (.int .i64 (f i))) :
  ∀j u,(ic f n)[j]?=some u->w.cell? ((⟨b,off,none⟩:Addr).add j)=some u:=by
 intro j u hj;have aA:j<n:=by
  have:=(List.getElem?_eq_some_iff.1 hj).1;rw[zC9]at this;omega
 rw[zKy f n j aA]at hj;rw[add_lit,h j aA];exact hj
theorem zM5{w:World}{base e g n cap:Nat}{xs:List Value}(h:w.ownsRow base e 1 (.slice (some ⟨g,0,none⟩) n cap) n xs)(h0:0<n):0<n/\(some ⟨g,0,none⟩:Option Addr)=some ⟨g,0,none⟩/\cap<=maxLen/\∃aA,w.heap[g]?=some (.cells aA e (0,0))/\aA.size=cap:=by
 obtain⟨_,⟨h,rfl⟩ | ⟨g',bA,aA,hv,_,hg,_,h2,h3,_⟩⟩:=h
 ·omega
 ·simp only[Value.slice.injEq,Option.some.injEq,Addr.mk.injEq,and_true,true_and]at hv;obtain⟨rfl,rfl⟩:=hv;exact⟨h0,rfl,h2,aA,hg,by simpa using h3⟩
theorem zQ{P:Prop}(h:P):Hid P:=h
theorem yO{P:Program}{w:World}{jA:Array Oper}{zO8:List Oper}{o:Oper}{a:Act}{Q:Exit->Act->World->Prop}(iA:o.guard=none)(s x:Operand)(t:TypeId)
  (ho:o.op = .call {callee:=.builtin .append,args:=#[s,x],argTypes:=#[t,t]})
  (base:Nat) (e:TypeId) (i:TypeInfo) (z:Value) (size bytes:Nat) (ht:P.underlying t=some (.slice e)) (hi:P.info? e=some i) (hz:i.zero=some z)
  (fA:i.size=size) (lA:i.bytes=bytes) (oA:z.cells.size=size) (nA:0<size)
  (v:Value) (n:Nat) (xs:List Value) (hs:a.eval s=v) (dA:w.ownsRow base e size v n xs)
  (ao:Option Addr) (m c:Nat) (aA:List Value) (hx:a.eval x = .slice ao m c) (hl:aA.length=m*size) (h1:∀u∈aA,u.oneCell'=true)
  (bA:0<m->∃b off,ao=some ⟨b,off,none⟩/\∀j u,aA[j]?=some u->w.cell? ⟨b,off+j,none⟩=some u)
  (kA:n+m<=maxLen) (cA:(n+m)*bytes<=140737488355328) (eA:base<=w.heap.size)
  (h:∀v' w',w'.ownsRow base e size v' (n+m) (xs ++ aA)->w.grownBy w' v.ownBlock->(m=0->v'=v)->wpList P jA Q zO8 (a.put o.dst v') w'):wpList P jA Q (o :: zO8) a w:=by
 by_cases gA:m=0
 ·have mA:aA = []:=List.eq_nil_of_length_eq_zero (by rw[hl,gA,Nat.zero_mul]);exact zEi iA s x t ho base e i size c m ao ht hi v n xs hs dA gA hx (h v w (by subst gA;subst mA;simpa using dA) ⟨rfl,rfl,rfl,Nat.le_refl _,fun _ _ _=>rfl⟩ (fun _=>rfl))
 cases ao with
 | none=>
  obtain⟨b,off,ha,_⟩:=bA (by omega);simp at ha
 | some ad=>
  refine wpList_append_own w iA s x t ho base e i z size bytes ht hi hz fA lA oA nA v n xs hs dA ad m c aA hx hl (fun j u hj=>?_) h1 kA cA eA (fun v' w' g1 g2 _=>h v' w' g1 g2 (fun e=>absurd e gA));have h0:0<m:=by
   have:=(List.getElem?_eq_some_iff.1 hj).1;rw[hl]at this;rcases Nat.eq_zero_or_pos m with hm | hm
   ·rw[hm,Nat.zero_mul]at this;omega
   ·exact hm
  obtain⟨b,off,ha,hc⟩:=bA h0;simp only[Option.some.injEq]at ha;subst ha;rw[add_lit];exact hc j u hj
theorem zNm{w:World}{lo hi:Nat}{f:Nat->Int}{n:Nat}{v:Value}(h:zAb w lo hi v n f){a:Option Addr}{c:Nat}(hv:v = .slice a n c){w':World}(hb:Below w.heap.size w w') :
  0<n->∃b off,a=some ⟨b,off,none⟩/\∀j u,(ic f n)[j]?=some u->w'.cell? ⟨b,off+j,none⟩=some u:=by
 obtain⟨_,a0,c0,h0,_,g⟩:=h;subst hv;simp only[Value.slice.injEq,true_and]at h0;obtain⟨rfl,rfl⟩:=h0;intro hn;obtain⟨b,off,ha,_,_,hc⟩:=g hn;refine⟨b,off,ha,fun j u hj=>?_⟩;have:=zMb hc j u hj;rw[add_lit]at this;exact(hb.cell (zD this)).trans this
theorem zk.grown{w w1:World}{v:Value}{b base e size n:Nat}{xs:List Value}{x y:Value}(h:zk w b x y)(hg:w.grownBy w1 v.ownBlock)(aA:w.ownsRow base e size v n xs)(hb:b<base):zk w1 b x y:=
 h.zOr (zBp hg) (fun e=>by have:=aA.lt b e;omega)
theorem zOa(w:World)(x y z:Value)(t:TypeId):∀j u,[x,y,z][j]?=some u->(w.alloc (.cells #[x,y,z] t)).cell? ((⟨w.heap.size,0,none⟩:Addr).add j)=some u:=by
 intro j u hj
 match j,hj with
 | 0,hj=>simp at hj;subst hj;simp[Addr.add]
 | 1,hj=>simp at hj;subst hj;simp[Addr.add]
 | 2,hj=>simp at hj;subst hj;simp[Addr.add]
 | (j+3),hj=>simp at hj
theorem zOo(x:Int)(a:Option Addr)(n c:Nat)(s:ByteArray):∀u∈[Value.int .i64 x,.slice a n c,.string s],u.oneCell'=true:=by
 intro u hu;simp only[List.mem_cons,List.not_mem_nil,or_false]at hu;rcases hu with rfl | rfl | rfl<;>rfl
theorem zKJ{wr W:World}{lo k nb m:Nat}{f:Nat->zO}{kb:Nat->Nat}{kv:Nat->Value}{v:Value}(h:zD9 wr lo k f kb kv v)(aA:lo<=wr.heap.size)(h2:0<m->wr.heap.size<=nb/\nb<W.heap.size) :
  0<m->lo<=nb/\nb<W.heap.size/\v.ownBlock≠some nb/\∀j,j<k->0<(f j).kn->kb j≠nb:=fun h0=>by
 obtain⟨h3,h4⟩:=h2 h0;exact⟨by omega,h4,fun e=>by have:=h.row.lt nb e;omega,fun j hj hk e=>by have:=h.zO7 j hj hk;omega⟩
def zL5(p:zI)(w:World)(e:Ending)(w':World):Prop:=
 ∃v0 v1 M bs kb kv,e = .returned (.agg #[v0,v1])/\zAC w' bs kb kv v0 p.n p.s/\zCp kb p.n p.s/\(∀k,zBS bs kb p.n p.s k->M<=k/\k<w'.heap.size)/\
  w'.ownsRow w.heap.size 2 1 v1 p.hn (ic p.h p.hn)/\(∀k,v1.ownBlock=some k->w.heap.size<=k/\k<M)/\w.heap.size<=M/\M<=w'.heap.size/\Below w.heap.size w w'/\(p.hn=0->∃a,v1 = .slice a 0 0)
theorem zEG{w:World}{base n:Nat}{v:Value}{f:Nat->Int}(hm:n<=maxLen)(h:w.ownsRow base 2 1 v n (ic f n))(hz:n=0->∃a,v = .slice a 0 0):∃hb,yy w hb v n f/\(0<n->v.ownBlock=some hb):=by
 by_cases h0:0<n
 ·obtain⟨gb,cap,rfl,bA,hb,cA,aA⟩:=qp h h0;refine⟨gb,⟨hm,_,cap,rfl,bA,fun _=>⟨0,rfl,fun i hi=>?_⟩,fun _=>?_⟩,fun _=>rfl⟩
  ·have:=aA i _ (zKy f n i hi);simpa using this
  ·exact zM5 h h0
 ·obtain⟨a,cap,rfl,bA⟩:=zX h;exact⟨0,⟨hm,a,cap,rfl,bA,fun h=>absurd h h0,fun cA=>by obtain⟨a2,e2⟩:=hz (by omega);simp only[Value.slice.injEq]at e2;omega⟩,fun h=>absurd h h0⟩
theorem zLi{w':World}{p:zI}{v0 v1:Value}{B M bs base:Nat}{kb:Nat->Nat}{kv:Nat->Value}(h1:zAC w' bs kb kv v0 p.n p.s)(h2:zCp kb p.n p.s)(h3:∀k,zBS bs kb p.n p.s k->M<=k/\k<w'.heap.size)(hm:p.hn<=maxLen)
  (h4:w'.ownsRow base 2 1 v1 p.hn (ic p.h p.hn)) (h5:∀k,v1.ownBlock=some k->B<=k/\(k<M\/w'.heap.size<=k\/(k<w'.heap.size/\¬zBS bs kb p.n p.s k))) (h6:B<=M) (hz:p.hn=0->∃a,v1 = .slice a 0 0):zh w' B w'.heap.size v0 v1 p:=by
 obtain⟨hb,hi,aA⟩:=zEG hm h4 hz;refine⟨bs,hb,kb,kv,h1,h2,hi,fun h0 hx=>?_,fun k hk=>?_⟩
 ·have a:=h3 _ hx;have b:=h5 _ (aA h0);rcases b.2 with b2 | b2 | b2
  ·omega
  ·omega
  ·exact b2.2 hx
 ·rcases hk with hk | ⟨h0,rfl⟩
  ·have:=h3 _ hk;omega
  ·have b:=h5 _ (aA h0);have c:=h4.lt _ (aA h0);exact⟨b.1,c.2⟩
theorem zMv{w:World}{B B' e size n:Nat}{v:Value}{xs:List Value}(h:w.ownsRow B' e size v n xs)(hB:B<=B'):w.ownsRow B e size v n xs:=
 ⟨h.1,h.2.imp id (fun ⟨g,cap,cur,a,b,c⟩=>⟨g,cap,cur,a,Nat.le_trans hB b,c⟩)⟩
def pcl:List (Int×Int)->List Value
 | []=>[]
 | x :: l=>.int .i64 x.1 :: .int .i64 x.2 :: pcl l
theorem zBh:∀l,(pcl l).length=l.length*2
 | []=>rfl
 | x :: l=>by simp[pcl,zBh l];omega
theorem zCL:∀l m,pcl (l ++ m)=pcl l ++ pcl m
 | [],m=>rfl
 | x :: l,m=>by simp[pcl,zCL l m]
theorem zIr:∀l,∀u∈pcl l,u.oneCell'=true
 | [],u,hu=>by simp[pcl]at hu
 | x :: l,u,hu=>by
  simp only[pcl,List.mem_cons]at hu;rcases hu with rfl | rfl | hu
  ·rfl
  ·rfl
  ·exact zIr l u hu
theorem zBG:∀(l:List (Int×Int)) i,i<l.length->(pcl l)[i*2]?=some (.int .i64 (l.getD i (0,0)).1)/\(pcl l)[i*2+1]?=some (.int .i64 (l.getD i (0,0)).2):=by
 intro l
 induction l with
 | nil=>intro i hi;simp at hi
 | cons x l ih=>
  intro i hi;cases i with
  | zero=>exact⟨rfl,rfl⟩
  | succ i=>
   have:=ih i (by simpa using hi);rw[show(i+1)*2=i*2+1+1 by omega];simpa[pcl]using this
def zg(l:List (Int×Int))(i:Nat):Int:=(l.getD i (0,0)).1
def zj(l:List (Int×Int))(i:Nat):Int:=(l.getD i (0,0)).2
theorem zCt:(Tryz.prog.info? 99).map (fun i=>(i.zero,i.size,i.bytes))=some (some (.agg #[.int .i64 0,.int .i64 0]),2,16):=by kernel_rfl
theorem zEX{w w1:World}(h:Below w.heap.size w w1)(row:Option Nat):w.grownBy w1 row:=⟨h.os,h.tape,h.output,h.size,fun k hk _=>h.block k hk⟩
def qH(w:World)(base:Nat)(v:Value)(l:List (Int×Int)):Prop:=w.ownsRow base 99 2 v l.length (pcl l)
theorem qH.zOp{w w1:World}{base:Nat}{v:Value}{l:List (Int×Int)}(h:qH w base v l)(hb:Below w.heap.size w w1):qH w1 base v l:=
 h.kept (zEX hb none) (by cases v.ownBlock<;>simp)
theorem qH.zOr{w w1:World}{base:Nat}{v:Value}{l:List (Int×Int)}{row:Option Nat}(h:qH w base v l)(hg:w.grownBy w1 row)(aA:∀q,v.ownBlock=some q->row≠some q):qH w1 base v l:=
 h.kept hg (by
  cases hv:v.ownBlock with
  | none=>simp
  | some q=>exact Or.inr (fun e=>aA q hv e.symm))
theorem qH.nil(w:World)(base:Nat):qH w base (.slice none 0 0) []:=World.ownsRow_nil _ _ _ _
theorem qH.mono{w:World}{base aA:Nat}{v:Value}{l:List (Int×Int)}(h:qH w base v l)(hb:aA<=base):qH w aA v l:=by
 refine⟨h.1,h.2.imp id ?_⟩;rintro⟨g,cap,bA,e,h1,h2⟩;exact⟨g,cap,bA,e,Nat.le_trans hb h1,h2⟩
theorem qH.put{w:World}{base b o:Nat}{v:Value}{l:List (Int×Int)}(h:qH w base v l)(hb:b<base)(u:Value):qH (w.setCell ⟨b,o,none⟩ u) base v l:=by
 refine⟨h.1,h.2.imp id ?_⟩;rintro⟨g,cap,aA,e,h1,h2,h3⟩;exact⟨g,cap,aA,e,h1,(Below.heap_setCell _ _ _ _ (fun e=>by have:g=b:=e;omega)).trans h2,h3⟩
theorem qH.lt{w:World}{base:Nat}{v:Value}{l:List (Int×Int)}(h:qH w base v l){q:Nat}(hq:v.ownBlock=some q):base<=q/\q<w.heap.size:=by
 rcases h.2 with⟨rfl,_⟩ | ⟨g,cap,aA,rfl,hb,hg,_⟩
 ·simp[Value.ownBlock]at hq
 ·simp only[Value.ownBlock,Option.some.injEq]at hq;subst hq;exact⟨hb,(Array.getElem?_eq_some_iff.1 hg).1⟩
theorem qH.own{w:World}{base:Nat}{v:Value}{l:List (Int×Int)}(h:qH w base v l)(hm:l.length<=maxLen):∃b,ze w b v l.length (zg l) (zj l)/\(0<l.length->v.ownBlock=some b/\base<=b/\b<w.heap.size):=by
 by_cases h0:0<l.length
 ·obtain⟨g,cap,rfl,bA,hb,cA,aA⟩:=qp h h0;refine⟨g,⟨hm,_,cap,rfl,bA,fun _=>⟨0,rfl,fun i hi=>?_⟩⟩,fun _=>⟨rfl,hb,cA⟩⟩;rw[Nat.zero_add];exact⟨aA _ _ (zBG l i hi).1,aA _ _ (zBG l i hi).2⟩
 ·obtain⟨a,cap,rfl,bA⟩:=zX h;exact⟨0,⟨hm,a,cap,rfl,bA,fun h=>absurd h h0⟩,fun h=>absurd h h0⟩
theorem zp.cellsT{w:World}{lo hi:Nat}{a:Option Addr}{n c:Nat}{f g:Nat->Int}(h:zp w lo hi (.slice a n c) n f g){k:Nat}(hk:k<n):∃b off,a=some ⟨b,off,none⟩/\w.cell? ⟨b,off+k*2,none⟩=some (.int .i64 (f k))/\w.cell? ⟨b,off+k*2+1,none⟩=some (.int .i64 (g k)):=by
 obtain⟨_,a2,c2,hv,_,hx⟩:=h;simp only[Value.slice.injEq,true_and]at hv;obtain⟨rfl,rfl⟩:=hv;obtain⟨b,off,ha,_,_,h3⟩:=hx (by omega);exact⟨b,off,ha,(h3 k hk).1,(h3 k hk).2⟩
def icl(l:List Int):List Value:=l.map (Value.int .i64)
theorem zKD(l m:List Int):icl (l ++ m)=icl l ++ icl m:=by simp[icl]
theorem zE8{w:World}{base:Nat}{v:Value}{l:List Int}(hm:l.length<=maxLen)(h:w.ownsRow base 2 1 v l.length (icl l)):zAb w 0 w.heap.size v l.length (fun i=>l.getD i 0):=by
 by_cases h0:0<l.length
 ·obtain⟨g,cap,rfl,bA,hb,cA,aA⟩:=qp h h0;refine⟨hm,_,cap,rfl,bA,fun _=>⟨g,0,rfl,Nat.zero_le _,cA,fun i hi=>?_⟩⟩;rw[Nat.zero_add];refine(aA i _ ?_).1;simp[icl,hi]
 ·obtain⟨a,cap,rfl,bA⟩:=zX h;exact⟨hm,a,cap,rfl,bA,fun h=>absurd h h0⟩
theorem zEu(l:List Int)(x:Int):Has l.length (fun i=>l.getD i 0) x↔x∈l:=by
 have aA:∀i (h:i<l.length),l.getD i 0=l[i]:=fun i h=>by rw[List.getD_eq_getElem?_getD,List.getElem?_eq_getElem h,Option.getD_some]
 constructor
 ·rintro⟨j,hj,e⟩;rw[<-e];show l.getD j 0∈l;rw[aA j hj];exact List.getElem_mem hj
 ·intro h;obtain⟨i,hi,rfl⟩:=List.getElem_of_mem h;exact⟨i,hi,aA i hi⟩
def zAL(p:zI)(rs:Int)(s:zO)(j:Nat):List Int:=rs :: yG (zA5 p s j)
def zA7(p:zI)(rs:Int)(s:zO)(j i:Nat):List Int:=zAL p rs s j ++ (zU s j :: yG (kidsUp (zU (p.s (zU s j).toNat)) (zq (p.s (zU s j).toNat)) i))
theorem zHM(p:zI)(s:zO)(j:Nat):∀m,j<=m->∃r,zA5 p s m=zA5 p s j ++ r
 | 0,h=>⟨[],by rw[show j=0 by omega];simp⟩
 | m+1,h=>by
  by_cases e:j=m+1
  ·subst e;exact⟨[],by simp⟩
  ·obtain⟨r,hr⟩:=zHM p s j m (by omega);exact⟨r ++ zHf p (zU s m) (zq s m),by rw[zA5,hr,List.append_assoc]⟩
theorem zFp(ks kb:Nat->Int)(j:Nat):∀m,j<=m->∃r,kidsUp ks kb m=kidsUp ks kb j ++ r
 | 0,h=>⟨[],by rw[show j=0 by omega];simp⟩
 | m+1,h=>by
  by_cases e:j=m+1
  ·subst e;exact⟨[],by simp⟩
  ·obtain⟨r,hr⟩:=zFp ks kb j m (by omega);exact⟨r ++ one (ks m) (kb m),by rw[kidsUp,hr,List.append_assoc]⟩
theorem zAr(l m:List (Int×Int)):yG (l ++ m)=yG l ++ yG m:=by simp[yG]
theorem zDI{l:List Int}{x:Int}:(l ++ [x]).Nodup↔l.Nodup/\x∉l:=by
 rw[List.nodup_append];constructor
 ·rintro⟨h1,_,h3⟩;exact⟨h1,fun hx=>h3 x hx x (by simp) rfl⟩
 ·rintro⟨h1,h2⟩;refine⟨h1,by simp,fun a ha b hb e=>?_⟩;rw[List.mem_singleton]at hb;subst hb;subst e;exact h2 ha
theorem zHO{p:zI}{rs rb:Int}(hz:¬Nil rs rb):yG (zY p rs rb)=zAL p rs (p.s rs.toNat) 8:=by
 unfold zY zAL;rw[if_neg hz];rfl
theorem zJS{p:zI}{s:zO}{j:Nat}(hn:¬Nil (zU s j) (zq s j)):zHf p (zU s j) (zq s j)=(zU s j,zq s j) :: zLb (p.s (zU s j).toNat):=if_neg hn
theorem zD5{p:zI}{rs:Int}{s:zO}{j:Nat}(hn:¬Nil (zU s j) (zq s j)):zAL p rs s (j+1)=zA7 p rs s j 8:=by
 unfold zAL zA7 zAL;rw[zA5,zAr,zJS hn];rfl
theorem zFY{p:zI}{rs:Int}{s:zO}{j:Nat}(hn:Nil (zU s j) (zq s j)):zAL p rs s (j+1)=zAL p rs s j:=by
 unfold zAL;rw[zA5,show zHf p (zU s j) (zq s j) = [] from if_pos hn,List.append_nil]
theorem zFS(p:zI)(rs:Int)(s:zO)(j:Nat):zA7 p rs s j 0=zAL p rs s j ++ [zU s j]:=rfl
theorem zMr{p:zI}{rs:Int}{s:zO}{j i:Nat}(hn:Nil (zU (p.s (zU s j).toNat) i) (zq (p.s (zU s j).toNat) i)):zA7 p rs s j (i+1)=zA7 p rs s j i:=by
 unfold zA7;rw[kidsUp,show one (zU (p.s (zU s j).toNat) i) (zq (p.s (zU s j).toNat) i) = [] from if_pos hn,List.append_nil]
theorem zMq{p:zI}{rs:Int}{s:zO}{j i:Nat}(hn:¬Nil (zU (p.s (zU s j).toNat) i) (zq (p.s (zU s j).toNat) i)):zA7 p rs s j (i+1)=zA7 p rs s j i ++ [zU (p.s (zU s j).toNat) i]:=by
 unfold zA7;rw[kidsUp,show one (zU (p.s (zU s j).toNat) i) (zq (p.s (zU s j).toNat) i) = [(zU (p.s (zU s j).toNat) i,zq (p.s (zU s j).toNat) i)] from if_neg hn,zAr,List.append_assoc];rfl
theorem zJg(p:zI)(rs:Int)(s:zO){j:Nat}(hj:j<=8):(zAL p rs s j).length<=73:=by
 have:=zD6 p s j;simp only[zAL,yG,List.length_cons,List.length_map];omega
theorem zNl(p:zI)(rs:Int)(s:zO){j i:Nat}(hj:j<=8)(hi:i<=8):(zA7 p rs s j i).length<=90:=by
 have h1:=zJg p rs s hj;have h2:=zAw (zU (p.s (zU s j).toNat)) (zq (p.s (zU s j).toNat)) i;simp only[zA7,yG,List.length_append,List.length_cons,List.length_map];omega
theorem zH0{p:zI}{rs rb:Int}(hz:¬Nil rs rb)(h:(yG (zY p rs rb)).Nodup){j i:Nat}(hj:j<8)(hi:i<=8)(hn:¬Nil (zU (p.s rs.toNat) j) (zq (p.s rs.toNat) j)):(zA7 p rs (p.s rs.toNat) j i).Nodup:=by
 rw[zHO hz]at h;obtain⟨r,hr⟩:=zHM p (p.s rs.toNat) (j+1) 8 (by omega);obtain⟨r2,aA⟩:=zFp (zU (p.s (zU (p.s rs.toNat) j).toNat)) (zq (p.s (zU (p.s rs.toNat) j).toNat)) i 8 hi;have e1:zAL p rs (p.s rs.toNat) 8=zAL p rs (p.s rs.toNat) (j+1) ++ yG r:=by unfold zAL;rw[hr,zAr];rfl
 have e2:zA7 p rs (p.s rs.toNat) j 8=zA7 p rs (p.s rs.toNat) j i ++ yG r2:=by
  unfold zA7;rw[aA,zAr,List.append_assoc];rfl
 rw[e1,zD5 hn,e2,List.append_assoc]at h;exact(List.nodup_append.1 h).1
end Go.Proofs.YtgabgheflgjgiaaGreatDoor
