/- A part of the proof. -/
import Derived.Test.YtehdoekmnicdiaaGreatDoorF8
import Derived.Laws.CopyOwn
import Derived.Deep.RegionLaw
import Derived.Deep.WholeRow
set_option linter.unusedVariables false
set_option maxRecDepth 20000
set_option maxHeartbeats 4000000
namespace Go.Proofs.YtehdoekmnicdiaaGreatDoor
open Go.RowKit
def FF(s:AG):Prop:=DM s.birth/\s.kn=0/\s.data.size=16
def IR(s:AG):Prop:=DM s.birth/\s.kn=8/\s.data.toList.isEmpty=true
theorem L3(k v1 l:Value)(lo hi:Nat)(s:AG)(w:World)(b:CQ w lo hi k v1 l s) :
 Calls Tryz.prog 116 #[.agg #[k,v1,l]] w fun e w'=>AL (Ag s) e/\Below w.heap.size w w':=by
 obtain⟨rfl,⟨m,a,c,rfl,_⟩,rfl,_⟩:=b;unfold maxLen at m;have d:=(Below.refl w.heap.size w).alloc (Nat.le_refl _) (.cells #[.int .i64 s.birth,.slice a s.kn c,.string s.data] 86);by_cases b:s.birth=0
 ·by_cases f:s.kn=0
  ·by_cases g:s.data.toList.isEmpty=true
   ·have H:Hid (Ag s):=⟨b,f,g⟩;have i:(s.birth == 0)=true:=(by simp[b]);have j:((s.kn:Int) == 0)=true:=(by simp[f]);clear b f;go_enter Tryz.func116,Tryz.ntmps116;go_wp2;go_ret;exact⟨AL.yes H.out,d⟩
   ·have H:Hid (¬Ag s):=fun h=>g h.2.2
    have i:(s.birth == 0)=true:=(by simp[b]);have j:((s.kn:Int) == 0)=true:=(by simp[f]);have n:s.data.toList.isEmpty=false:=(by simpa using g);clear b f g;go_enter Tryz.func116,Tryz.ntmps116;go_wp2;go_ret;exact⟨AL.no H.out,d⟩
  ·have H:Hid (¬Ag s):=fun h=>f h.2.1
   have i:(s.birth == 0)=true:=(by simp[b]);have j:((s.kn:Int) == 0)=false:=(by simp;omega);clear b f;go_enter Tryz.func116,Tryz.ntmps116;go_wp2;go_ret;exact⟨AL.no H.out,d⟩
 ·have H:Hid (¬Ag s):=fun h=>b h.1
  have i:(s.birth == 0)=false:=(by simp[b]);clear b;go_enter Tryz.func116,Tryz.ntmps116;go_wp2;go_ret;exact⟨AL.no H.out,d⟩
theorem FD(n:Int)(w:World):Calls Tryz.prog 115 #[.int .i64 n] w fun e w'=>AL (DM n) e/\w'=w:=by
 by_cases a:1<=n
 ·by_cases b:n<=1000000
  ·go_enter Tryz.func115,Tryz.ntmps115;go_wp2;go_ret;exact⟨AL.yes ⟨a,b⟩,rfl⟩
  ·go_enter Tryz.func115,Tryz.ntmps115;go_wp2;go_ret;exact⟨AL.no fun h=>by have:=h.2;omega,rfl⟩
 ·go_enter Tryz.func115,Tryz.ntmps115;go_wp2;go_ret;exact⟨AL.no fun h=>by have:=h.1;omega,rfl⟩
theorem YZ(l v1 m:Value)(lo hi:Nat)(s:AG)(w:World)(d:CQ w lo hi l v1 m s) :
 Calls Tryz.prog 163 #[.agg #[l,v1,m]] w fun e w'=>AL (FF s) e/\Below w.heap.size w w':=by
 obtain⟨rfl,⟨o,a,c,rfl,_⟩,rfl,p⟩:=d;unfold maxLen at o p;have f:=(Below.refl w.heap.size w).alloc (Nat.le_refl _) (.cells #[.int .i64 s.birth,.slice a s.kn c,.string s.data] 86);by_cases d:DM s.birth
 ·have i:Hid (DM s.birth):=d;by_cases g:s.kn=0
  ·by_cases j:s.data.size=16
   ·have H:Hid (FF s):=⟨d,g,j⟩;have k:((s.kn:Int) == 0)=true:=(by simp[g]);have n:((s.data.size:Int) == 16)=true:=(by simp[j]);clear d g j;go_enter Tryz.func163,Tryz.ntmps163;go_wp2_with (go_at_call 115;refine(FD _ _).mono ?_;rintro e w' ⟨⟨t,rfl,b⟩,rfl⟩;obtain rfl:t=true:=b.2 i.out;clear b);go_ret;exact⟨AL.yes H.out,f⟩
   ·have H:Hid (¬FF s):=fun h=>j h.2.2
    have k:((s.kn:Int) == 0)=true:=(by simp[g]);have n:((s.data.size:Int) == 16)=false:=(by simp;omega);clear d g j;go_enter Tryz.func163,Tryz.ntmps163;go_wp2_with (go_at_call 115;refine(FD _ _).mono ?_;rintro e w' ⟨⟨t,rfl,b⟩,rfl⟩;obtain rfl:t=true:=b.2 i.out;clear b);go_ret;exact⟨AL.no H.out,f⟩
  ·have H:Hid (¬FF s):=fun h=>g h.2.1
   have k:((s.kn:Int) == 0)=false:=(by simp;omega);clear d g;go_enter Tryz.func163,Tryz.ntmps163;go_wp2_with (go_at_call 115;refine(FD _ _).mono ?_;rintro e w' ⟨⟨t,rfl,b⟩,rfl⟩;obtain rfl:t=true:=b.2 i.out;clear b);go_ret;exact⟨AL.no H.out,f⟩
 ·have i:Hid (¬DM s.birth):=d;clear d;go_enter Tryz.func163,Tryz.ntmps163;go_wp2_with (go_at_call 115;refine(FD _ _).mono ?_;rintro e w' ⟨⟨t,rfl,b⟩,rfl⟩;obtain rfl:t=false:=BR b i.out;clear b);go_ret;exact⟨AL.no fun h=>i.out h.1,f⟩
theorem zB6(l v1 m:Value)(lo hi:Nat)(s:AG)(w:World)(d:CQ w lo hi l v1 m s) :
 Calls Tryz.prog 164 #[.agg #[l,v1,m]] w fun e w'=>AL (IR s) e/\Below w.heap.size w w':=by
 obtain⟨rfl,⟨n,a,c,rfl,_⟩,rfl,o⟩:=d;unfold maxLen at n o;have f:=(Below.refl w.heap.size w).alloc (Nat.le_refl _) (.cells #[.int .i64 s.birth,.slice a s.kn c,.string s.data] 86);by_cases d:DM s.birth
 ·have i:Hid (DM s.birth):=d;by_cases g:s.kn=8
  ·by_cases j:s.data.toList.isEmpty=true
   ·have H:Hid (IR s):=⟨d,g,j⟩;have k:((s.kn:Int) == 8)=true:=(by simp[g]);clear d g;go_enter Tryz.func164,Tryz.ntmps164;go_wp2_with (go_at_call 115;refine(FD _ _).mono ?_;rintro e w' ⟨⟨t,rfl,b⟩,rfl⟩;obtain rfl:t=true:=b.2 i.out;clear b);go_ret;exact⟨AL.yes H.out,f⟩
   ·have H:Hid (¬IR s):=fun h=>j h.2.2
    have k:((s.kn:Int) == 8)=true:=(by simp[g]);have p:s.data.toList.isEmpty=false:=(by simpa using j);clear d g j;go_enter Tryz.func164,Tryz.ntmps164;go_wp2_with (go_at_call 115;refine(FD _ _).mono ?_;rintro e w' ⟨⟨t,rfl,b⟩,rfl⟩;obtain rfl:t=true:=b.2 i.out;clear b);go_ret;exact⟨AL.no H.out,f⟩
  ·have H:Hid (¬IR s):=fun h=>g h.2.1
   have k:((s.kn:Int) == 8)=false:=(by simp;omega);clear d g;go_enter Tryz.func164,Tryz.ntmps164;go_wp2_with (go_at_call 115;refine(FD _ _).mono ?_;rintro e w' ⟨⟨t,rfl,b⟩,rfl⟩;obtain rfl:t=true:=b.2 i.out;clear b);go_ret;exact⟨AL.no H.out,f⟩
 ·have i:Hid (¬DM s.birth):=d;clear d;go_enter Tryz.func164,Tryz.ntmps164;go_wp2_with (go_at_call 115;refine(FD _ _).mono ?_;rintro e w' ⟨⟨t,rfl,b⟩,rfl⟩;obtain rfl:t=false:=BR b i.out;clear b);go_ret;exact⟨AL.no fun h=>i.out h.1,f⟩
theorem zAF(v:Value)(n lo hi:Nat)(f:Nat->Int)(x:Int)(w:World)(z:D6 w lo hi v n f) :
 Calls Tryz.prog 183 #[v,.int .i64 x] w fun e w'=>(∃r:Int,e = .returned (.int .i64 r)/\(0<=r↔Has n f x))/\w'=w:=by
 obtain⟨B,a,c,rfl,D,s⟩:=z;unfold maxLen at B;have q:Hid (0<n->∃b off,a=some ⟨b,off,none⟩/\lo<=b/\b<hi/\∀i,i<n->w.cell? ⟨b,off+i,none⟩=some (.int .i64 (f i))):=s;clear s;go_enter Tryz.func183,Tryz.ntmps183;go_wp2
 go_loop [8] (fun i=>∃k:Nat,k<=n/\i = .int .i64 k/\¬Has k f x) (fun i=>n - (intOf i).toNat)
 case atStart=>exact⟨0,Nat.zero_le _,rfl,fun ⟨j,t,_⟩=>absurd t (Nat.not_lt_zero _)⟩
 case round=>
  obtain⟨k,C,rfl,o⟩:=hrel;have g:Hid (¬Has k f x):=o;clear o;by_cases m:k<n
  ·have u:(k:Int)<(n:Int):=(by omega);obtain⟨b,off,rfl,_,_,y⟩:=q.out (by omega);have A:=y k m;clear y q;by_cases d:f k=x
   ·have H:Hid (Has n f x):=⟨k,m,d⟩;have p:(x == f k)=true:=(by simp[d]);clear d;go_wp2;go_ret;exact⟨⟨_,rfl,⟨fun _=>H.out,fun _=>Int.natCast_nonneg _⟩⟩,rfl⟩
   ·have H:Hid (¬f k=x):=d;have p:(x == f k)=false:=(by simp;exact fun e=>d e.symm);clear d;go_wp2
    go_round
    case rel=>
     refine⟨k+1,by omega,by go_num,?_⟩;rintro⟨j,t,l⟩;by_cases e:j=k
     ·subst e;exact H.out l
     ·exact g.out ⟨j,by omega,l⟩
    case measure=>simp[intOf];omega
  ·obtain rfl:k=n:=(by omega);go_wp2;go_ret;exact⟨⟨-1,rfl,⟨fun h=>absurd h (by omega),fun h=>absurd h g.out⟩⟩,rfl⟩
theorem Ou(v:Value)(n lo hi:Nat)(f:Nat->Int)(x:Int)(w:World)(b:D6 w lo hi v n f) :
 Calls Tryz.prog 158 #[v,.int .i64 x] w fun e w'=>AL (Has n f x) e/\w'=w:=by
 have g:Hid (D6 w lo hi v n f):=b;obtain⟨j,a,c,rfl,k,i⟩:=b;clear i;go_enter Tryz.func158,Tryz.ntmps158;go_wp2_with fail;refine(zAF _ n lo hi f x _ g.out).mono ?_;rintro e w' ⟨⟨r,rfl,d⟩,rfl⟩;have h:Hid (0<=r↔Has n f x):=d;clear d;go_wp2;go_ret;exact⟨⟨_,rfl,by simpa using h.out⟩,rfl⟩
def Dr(n:Nat)(f:Nat->AG)(x ps pb:Int):Prop:=
 (0<=x/\x<n/\¬Ag (f x.toNat)/\ps=x/\pb=(f x.toNat).birth)\/(¬(0<=x/\x<n/\¬Ag (f x.toNat))/\ps=0/\pb=0)
theorem ON(v:Value)(n lo hi:Nat)(f:Nat->AG)(x:Int)(w:World)(r:CD w lo hi v n f) :
 Calls Tryz.prog 174 #[v,.int .i64 x] w fun e w'=>(∃ps y,e = .returned (.agg #[.int .i64 ps,.int .i64 y])/\Dr n f x ps y)/\Below w.heap.size w w':=by
 have B:Hid (CD w lo hi v n f):=r;obtain⟨G,a,c,rfl,N,C⟩:=r;unfold maxLen at G;clear C;have g:Hid (Below w.heap.size w (w.alloc (.cells #[.int .i64 0,.int .i64 0] 38))):=AC _ _;by_cases r:x<0
 ·have H:Hid (Dr n f x 0 0):=Or.inr ⟨fun h=>by omega,rfl,rfl⟩;go_enter Tryz.func174,Tryz.ntmps174;go_wp2;refine bodyPost_ret (v:=.agg #[.int .i64 0,.int .i64 0]) (by simp[results,Tryz.results174,go_sem]) rfl ⟨⟨0,0,rfl,H.out⟩,g.out⟩
 ·by_cases M:(n:Int)<=x
  ·have H:Hid (Dr n f x 0 0):=Or.inr ⟨fun h=>by omega,rfl,rfl⟩;go_enter Tryz.func174,Tryz.ntmps174;go_wp2;refine bodyPost_ret (v:=.agg #[.int .i64 0,.int .i64 0]) (by simp[results,Tryz.results174,go_sem]) rfl ⟨⟨0,0,rfl,H.out⟩,g.out⟩
  ·obtain⟨k,rfl⟩:=Int.eq_ofNat_of_zero_le (show 0<=x by omega);have D:k<n:=(by omega);have s:(k:Int)<(n:Int):=(by omega);obtain⟨b,off,F,kc,rfl,hs⟩:=B.out.cells D;have q:Hid (Jo w b (off+k*3) lo hi F kc (f k)):=hs;have E:=AZ hs.c0;obtain⟨z,q1,A,_⟩:=hs;by_cases j:Ag (f k)
   ·have H:Hid (Dr n f k 0 0):=Or.inr ⟨fun h=>h.2.2 (by rw[Int.toNat_natCast];exact j),rfl,rfl⟩;have p:Hid (Ag (f k)):=j;clear j;go_enter Tryz.func174,Tryz.ntmps174;go_wp2_with fail;refine(L3 _ _ _ lo hi (f k) _ (q.out.slot.A0 g.out)).mono ?_;rintro e u ⟨⟨t,rfl,o⟩,d⟩;obtain rfl:t=true:=o.2 p.out;clear o;have l:Hid (Ac u w.heap.size (.int .i64 0) (.int .i64 0)):=(Ac.new w _ _ _).A0 d;have i:=A7 g.out d;clear d z q1 A;obtain⟨⟨I,J⟩,⟨K,L⟩⟩:=l.out;go_wp2;have m:=l.out.put (.int .i64 0) (.int .i64 0);refine bodyPost_ret (v:=.agg #[.int .i64 0,.int .i64 0]) (by simp[results,Tryz.results174,go_sem,m.1.1,m.2.1]) rfl ⟨⟨0,0,rfl,H.out⟩,(i.setCell (Nat.le_refl _) _).setCell (Nat.le_refl _) _⟩
   ·have H:Hid (Dr n f k k (f k).birth):=Or.inl ⟨by omega,s,by rw[Int.toNat_natCast];exact j,rfl,by rw[Int.toNat_natCast]⟩;have p:Hid (¬Ag (f k)):=j;clear j;go_enter Tryz.func174,Tryz.ntmps174;go_wp2_with fail;refine(L3 _ _ _ lo hi (f k) _ (q.out.slot.A0 g.out)).mono ?_;rintro e u ⟨⟨t,rfl,o⟩,d⟩;obtain rfl:t=false:=BR o p.out;clear o;have l:Hid (Ac u w.heap.size (.int .i64 0) (.int .i64 0)):=(Ac.new w _ _ _).A0 d;have i:=A7 g.out d;have O:=(q.out.A0 i).c0;clear d z q1 A;obtain⟨⟨I,J⟩,⟨K,L⟩⟩:=l.out;go_wp2;have m:=l.out.put (.int .i64 k) (.int .i64 (f k).birth);refine bodyPost_ret (v:=.agg #[.int .i64 k,.int .i64 (f k).birth]) (by simp[results,Tryz.results174,go_sem,m.1.1,m.2.1]) rfl ⟨⟨_,_,rfl,H.out⟩,(i.setCell (Nat.le_refl _) _).setCell (Nat.le_refl _) _⟩
variable{P:Program}
theorem ZP(w:World)(n sT ty elem:TypeId)(size g o b f:Nat)(a:Addr)(c l:Nat)(d:Array Value)(t:TypeId)(cs:List Value)
 (s:P.underlying n=some (.slice elem)) (hs:(P.info? elem).map (·.size)=some size)
 (q:w.heap[g]?=some (.cells d t (0,0))) (hn:cs.length=Nat.min c b*size)
 (k:∀j v,cs[j]?=some v->w.cell? (a.add j)=some v) (h:o+cs.length<=d.size) (p:∀v∈cs,v.oneCell'=true) :
 (Builtin.copy_ #[n,sT] ty #[.slice (some ⟨g,o,none⟩) b f,.slice (some a) c l]).run P w =
  .ok (goInt (Nat.min c b)) (w.setRow g (d.toList.take o ++ cs ++ d.toList.drop (o+cs.length)).toArray):=by
 have r:=run_loadCells_list (P:=P) w a cs k;have m:=run_storeCells_at P g o t cs 0 d w q (by simpa using h) p;cases hq:P.info? elem with
 | none=>simp[hq]at hs
 | some i=>
  have hi:i.size=size:=(by simpa[hq]using hs);have e:Nat.min c b*i.size=cs.length:=(by rw[hi,hn]);simp[Builtin.copy_,run_underlying s,Builtin.lenOf,Builtin.firstCells,sizeOf,typeInfo,hq,e,r,m]
theorem zCq(w:World)(f sT ty elem:TypeId)(size:Nat)(d a:Option Addr)(c b e:Nat)
 (g:P.underlying f=some (.slice elem)) (hs:(P.info? elem).map (·.size)=some size) :
 (Builtin.copy_ #[f,sT] ty #[.slice d c b,.slice a 0 e]).run P w = .ok (goInt 0) w:=by
 cases hq:P.info? elem with
 | none=>simp[hq]at hs
 | some i=>
  cases a with
  | none=>cases d<;>simp[Builtin.copy_,run_underlying g,Builtin.lenOf,Builtin.firstCells,sizeOf,typeInfo,hq,storeCells]
  | some a=>cases d<;>simp[Builtin.copy_,run_underlying g,Builtin.lenOf,Builtin.firstCells,sizeOf,typeInfo,hq,storeCells,loadCells,loadCellsFrom]
def BB(s:AG)(j:Nat):Int:=if j / 2<s.kn then(if j % 2=0 then s.ks (j / 2)else s.kb (j / 2))else 0
def Aj(f:Nat->Int):Array Value:=((List.range 16).map fun j=>Value.int .i64 (f j)).toArray
def B6(s:AG):Array Value:=Aj (BB s)
theorem Cy(f:Nat->Int):(Aj f).size=16:=by simp[Aj]
theorem ED(f:Nat->Int){j:Nat}(h:j<16):(Aj f)[j]?=some (.int .i64 (f j)):=by simp[Aj,h]
theorem IE(f:Nat->Int):(Aj f).all (·.oneCell')=true:=by
 unfold Aj;rw[Array.all_eq_true_iff_forall_mem];intro v hv;simp at hv;obtain⟨j,_,rfl⟩:=hv;rfl
theorem XV{f g:Nat->Int}(h:∀j,j<16->f j=g j):Aj f=Aj g:=by
 unfold Aj;congr 1;apply List.map_congr_left;intro j a;rw[h j (by simpa using a)]
theorem GZ:(Tryz.prog.info? 108).map (·.size)=some 16:=by kernel_rfl
theorem Rf:(Tryz.prog.info? 38).map (·.size)=some 2:=by kernel_rfl
theorem FI:Tryz.prog.underlying 108=some (.array 8 38):=by kernel_rfl
theorem Yn(w:World)(b a c:Obj):(((w.alloc b).alloc a).alloc c).heap[w.heap.size+1]?=some a/\(((w.alloc b).alloc a).alloc c).heap[w.heap.size+1+1]?=some c/\w.heap.size+1+1<(((w.alloc b).alloc a).alloc c).heap.size:=by
 refine⟨?_,?_,by simp⟩
 ·rw[Below.heap_alloc _ _ _ (by simp)];have:=heap_alloc_last (w.alloc b) a;rw[World.size_alloc]at this;exact this
 ·have:=heap_alloc_last ((w.alloc b).alloc a) c;rw[World.size_alloc,World.size_alloc]at this;exact this
theorem AE.setRow(w:World)(g:Nat)(cs:Array Value):AE (fun k=>k=g) w (w.setRow g cs):=
 ⟨rfl,rfl,rfl,by simp[World.setRow],fun k _ hs=>setRow_other w g k cs hs⟩
theorem zD3{q:Array Oper}{o:Oper}{a:Act}{w:World}{K:Act->World->Prop}{Q:Exit->Act->World->Prop}{E:Prop}(u:o.guard=none)(d s:Operand)
 (z:o.op = .call {callee:=.builtin .copy,args:=#[d,s],argTypes:=#[39,39]})
 (g:Nat) (x:Option Addr) (kc:Nat) (c:AG) (y:a.eval d = .slice (some ⟨g,0,none⟩) 8 8) (hs:a.eval s = .slice x c.kn kc)
 (t:w.heap[g]?=some (.cells (Aj fun _=>0) 108 (0,0))) (p:c.kn=0\/(c.kn=8/\∃b off,x=some ⟨b,off,none⟩/\∀i,i<c.kn->w.cell? ⟨b,off+i*2,none⟩=some (.int .i64 (c.ks i))/\w.cell? ⟨b,off+i*2+1,none⟩=some (.int .i64 (c.kb i))))
 (h:∀w' v,Hid (w'.heap[g]?=some (.cells (B6 c) 108 (0,0)))->AE (fun k=>k=g) w w'->K (a.put o.dst v) w') :
 if Region.wanted o (yielded q a.tmps)=true then Oper.wp Tryz.prog o a w K Q else E:=by
 have C:Region.wanted o (yielded q a.tmps)=true:=by simp[Region.wanted,u]
 rw[if_pos C];have A:Tryz.prog.underlying 39=some (.slice 38):=by kernel_rfl
 rcases p with p | ⟨p,b,off,rfl,B⟩
 ·rw[p]at hs;have f:=zCq (P:=Tryz.prog) w 39 39 o.type 38 2 (some ⟨g,0,none⟩) x 8 8 kc A Rf;unfold Oper.wp;simp[execOp,z,resolve,invoke,builtin,y,hs,f,Result.andThen];refine h _ _ ?_ (AE.refl _ _);show _=_;rw[t];have:B6 c=Aj (fun _=>0):=XV fun j _=>by unfold BB;rw[if_neg (by omega)]
  rw[this]
 ·rw[p]at hs;have f:=ZP (P:=Tryz.prog) w 39 39 o.type 38 2 g 0 8 8 ⟨b,off,none⟩ 8 kc (Aj fun _=>0) 108 (B6 c).toList A Rf t (by simp[B6,Aj]) (fun j v r=>by
   have n:j<16:=by
    have:=(List.getElem?_eq_some_iff.1 r).1;simpa[B6,Cy]using this
   have e:(B6 c).toList[j]?=some (.int .i64 (BB c j)):=(by rw[Array.getElem?_toList];exact ED (BB c) n);rw[e]at r;simp only[Option.some.injEq]at r;subst r;have l:(⟨b,off,none⟩:Addr).add j=⟨b,off+j,none⟩:=(by unfold Addr.add;split<;>simp_all);rw[l];unfold BB;rw[if_pos (by omega)];have m:=B (j / 2) (by omega);split
   ·rw[show off+j=off+j / 2*2 by omega];exact m.1
   ·rw[show off+j=off+j / 2*2+1 by omega];exact m.2) (by simp[B6,Aj]) (fun v hv=>(Array.all_eq_true_iff_forall_mem.1 (IE _)) v (by simpa[B6]using hv))
  unfold Oper.wp;simp[execOp,z,resolve,invoke,builtin,y,hs,f,Result.andThen];refine h _ _ ?_ (AE.setRow _ _ _);show _=_;rw[setRow_heap w g _ _ 108 (0,0) t];have e0:((Aj fun _=>0).toList.drop 16) = []:=List.drop_eq_nil_of_le (by simp[Aj]);simp[B6,Cy,e0]
theorem OS(z v1 A:Value)(lo hi:Nat)(s:AG)(w:World)(H:CQ w lo hi z v1 A s)(t:s.kn=0\/s.kn=8) :
 Calls Tryz.prog 121 #[.agg #[z,v1,A]] w fun e w'=>e = .returned (.agg (B6 s))/\Below w.heap.size w w':=by
 obtain⟨rfl,⟨K,a,c,rfl,T,y⟩,rfl,L⟩:=H;unfold maxLen at K L;have B:Hid (0<s.kn->∃b off,a=some ⟨b,off,none⟩/\lo<=b/\b<hi/\∀i,i<s.kn->w.cell? ⟨b,off+i*2,none⟩=some (.int .i64 (s.ks i))/\w.cell? ⟨b,off+i*2+1,none⟩=some (.int .i64 (s.kb i))):=y;have F:Hid (s.kn=0\/s.kn=8):=t;clear y t;go_enter Tryz.func121,Tryz.ntmps121;go_wp2_with fail;obtain⟨W,n⟩:∃W:World,W=((w.alloc (.cells #[.int .i64 s.birth,.slice a s.kn c,.string s.data] 86)).alloc (.cells #[Value.int .i64 0,Value.int .i64 0,Value.int .i64 0,Value.int .i64 0,Value.int .i64 0,Value.int .i64 0,Value.int .i64 0,Value.int .i64 0,Value.int .i64 0,Value.int .i64 0,Value.int .i64 0,Value.int .i64 0,Value.int .i64 0,Value.int .i64 0,Value.int .i64 0,Value.int .i64 0] 108)).alloc (.cells #[Value.int .i64 0,Value.int .i64 0,Value.int .i64 0,Value.int .i64 0,Value.int .i64 0,Value.int .i64 0,Value.int .i64 0,Value.int .i64 0,Value.int .i64 0,Value.int .i64 0,Value.int .i64 0,Value.int .i64 0,Value.int .i64 0,Value.int .i64 0,Value.int .i64 0,Value.int .i64 0] 108):=⟨_,rfl⟩;have x:(#[Value.int .i64 0,Value.int .i64 0,Value.int .i64 0,Value.int .i64 0,Value.int .i64 0,Value.int .i64 0,Value.int .i64 0,Value.int .i64 0,Value.int .i64 0,Value.int .i64 0,Value.int .i64 0,Value.int .i64 0,Value.int .i64 0,Value.int .i64 0,Value.int .i64 0,Value.int .i64 0]:Array Value)=Aj (fun _=>0):=rfl;have q:Below w.heap.size w W:=by rw[n];exact A7 (A7 (AC _ _) (AC _ _)) (AC _ _)
 have G:Hid (CY W w.heap.size (.int .i64 s.birth) (.slice a s.kn c) (.string s.data)):=by rw[n];exact((CY.new w _ _ _ _).A0 (AC _ _)).A0 (AC _ _)
 have d:=Yn w (.cells #[.int .i64 s.birth,.slice a s.kn c,.string s.data] 86) (.cells #[Value.int .i64 0,Value.int .i64 0,Value.int .i64 0,Value.int .i64 0,Value.int .i64 0,Value.int .i64 0,Value.int .i64 0,Value.int .i64 0,Value.int .i64 0,Value.int .i64 0,Value.int .i64 0,Value.int .i64 0,Value.int .i64 0,Value.int .i64 0,Value.int .i64 0,Value.int .i64 0] 108) (.cells #[Value.int .i64 0,Value.int .i64 0,Value.int .i64 0,Value.int .i64 0,Value.int .i64 0,Value.int .i64 0,Value.int .i64 0,Value.int .i64 0,Value.int .i64 0,Value.int .i64 0,Value.int .i64 0,Value.int .i64 0,Value.int .i64 0,Value.int .i64 0,Value.int .i64 0,Value.int .i64 0] 108);rw[<-n]at d;have E:Hid (W.heap[w.heap.size+1]?=some (.cells (Aj fun _=>0) 108 (0,0))):=d.1;have D:Hid (W.heap[w.heap.size+1+1]?=some (.cells (Aj fun _=>0) 108 (0,0))):=d.2.1;have J:w.heap.size+1+1<W.heap.size:=d.2.2;clear d;have C:Hid (s.kn=0\/(s.kn=8/\∃b off,a=some ⟨b,off,none⟩/\∀i,i<s.kn->W.cell? ⟨b,off+i*2,none⟩=some (.int .i64 (s.ks i))/\W.cell? ⟨b,off+i*2+1,none⟩=some (.int .i64 (s.kb i)))):=by
  rcases F.out with h | h
  ·exact Or.inl h
  ·obtain⟨b,off,I,_,_,o⟩:=B.out (by omega);exact Or.inr ⟨h,b,off,I,fun i hi=>⟨(q.cell (AZ (o i hi).1)).trans (o i hi).1,(q.cell (AZ (o i hi).2)).trans (o i hi).2⟩⟩
 rw[<-n];clear n x;obtain⟨⟨M,N⟩,⟨O,Q⟩,⟨R,S⟩⟩:=G.out
 go_region_law (refine zD3 rfl (.tmp 4) (.tmp 6) rfl (w.heap.size+1+1) a c s (by simp[Act.eval]) (by simp[Act.eval]) D.out C.out ?_;intro u cv p j)
 have m:u.heap[w.heap.size+1]?=some (.cells (Aj fun _=>0) 108 (0,0)):=(j.block _ (by show _<W.heap.size;omega) (by omega)).trans E.out;have l:Hid (u.heap[w.heap.size+1]?=some (.cells (Aj fun _=>0) 108 (0,0))):=m;have r:Below w.heap.size w u:=q.drew.trans (j.A0 (by show _<=W.heap.size;omega) (by intro k t;omega));clear m j M N O Q R S;have g:(Tryz.prog.info? 108).map (·.size)=some (B6 s).size:=by rw[B6,Cy];exact GZ
 have f:Hid ((Tryz.prog.info? 108).map (·.size)=some (B6 s).size):=g;clear g;go_wp2_with (first
  | (refine wpList_load_row rfl 108 (.tmp 3) rfl (w.heap.size+1+1) rfl 108 (B6 s) (0,0) _ p.out FI rfl f.out ?_)
  | (refine wpList_store_row rfl 108 (.tmp 2) (.tmp 8) rfl (w.heap.size+1) (B6 s) rfl rfl 108 (Aj fun _=>0) l.out f.out (by rw[B6,Cy,Cy]) (IE _) ?_))
 refine bodyPost_ret (v:=.agg (B6 s)) (results_cell_row (P:=Tryz.prog) (ty:=108) Tryz.results121 _ _ (w.heap.size+1) 108 (B6 s) (0,0) _ rfl (setRow_heap _ _ _ _ _ _ l.out) FI rfl f.out) rfl ⟨rfl,?_⟩;exact below_setRow r (by omega) _
def Fg(n:Nat)(f:Nat->AG)(b ks kb rs rb:Int):Prop:=
 ∃ps pb,Dr n f ks ps pb/\(((JW ks kb 0 0\/b<pb)/\rs=0/\rb=0)\/(¬(JW ks kb 0 0\/b<pb)/\rs=ps/\rb=pb))
theorem zCV(v:Value)(n lo hi:Nat)(f:Nat->AG)(g k b:Int)(w:World)(C:CD w lo hi v n f) :
 Calls Tryz.prog 186 #[v,.agg #[.int .i64 g,.int .i64 k],.int .i64 b] w fun e w'=>(∃rs rb,e = .returned (.agg #[.int .i64 rs,.int .i64 rb])/\Fg n f b g k rs rb)/\Below w.heap.size w w':=by
 have F:Hid (CD w lo hi v n f):=C;obtain⟨M,a,c,rfl,N,I⟩:=C;clear I;have t:Hid (Below w.heap.size w ((w.alloc (.cells #[.int .i64 g,.int .i64 k] 38)).alloc (.cells #[.int .i64 0,.int .i64 0] 38))):=A7 (AC _ _) (AC _ _);go_enter Tryz.func186,Tryz.ntmps186;go_wp2_with fail;refine(ON _ n lo hi f _ _ (F.out.A0 t.out)).mono ?_;rintro e r ⟨⟨ps,i,rfl,D⟩,l⟩;have y:Hid (Dr n f g ps i):=D;have A:Hid (Ac r w.heap.size (.int .i64 g) (.int .i64 k)):=((Ac.new w _ _ _).A0 (AC _ _)).A0 l;have x:Hid (Ac r (w.heap.size+1) (.int .i64 0) (.int .i64 0)):=by
  have:=(Ac.new (w.alloc (.cells #[.int .i64 g,.int .i64 k] 38)) (.int .i64 0) (.int .i64 0) 38).A0 l;rw[World.size_alloc]at this;exact this
 have z:=A7 t.out l;have L:w.heap.size<r.heap.size:=A.out.1.lt;have K:w.heap.size+1<r.heap.size:=x.out.1.lt;clear D l;obtain⟨⟨O,P⟩,⟨Q,R⟩⟩:=A.out;obtain⟨⟨S,T⟩,⟨U,V⟩⟩:=x.out;have B:=fun p q=>(x.out.put p q).A0 (AC _ (.cells #[.int .i64 ps,.int .i64 i] 38))
 have o:Hid (∀p q,Ac (((r.setCell ⟨w.heap.size+1,0,none⟩ p).setCell ⟨w.heap.size+1,1,none⟩ q).alloc (.cells #[.int .i64 ps,.int .i64 i] 38)) (w.heap.size+1) p q):=B;clear B;have m:Hid (∀p q,Below w.heap.size w (((r.setCell ⟨w.heap.size+1,0,none⟩ p).setCell ⟨w.heap.size+1,1,none⟩ q).alloc (.cells #[.int .i64 ps,.int .i64 i] 38))):=fun p q=>((z.setCell (by show _<=w.heap.size+1;omega) _).setCell (by show _<=w.heap.size+1;omega) _).alloc (by simp;omega) _
 by_cases d:JW g k 0 0
 ·obtain⟨rfl,rfl⟩:=d;have s:Hid (Fg n f b 0 0 0 0):=⟨ps,i,y.out,Or.inl ⟨Or.inl ⟨rfl,rfl⟩,rfl,rfl⟩⟩;go_wp2;have j:=o.out (.int .i64 0) (.int .i64 0);refine bodyPost_ret (v:=.agg #[.int .i64 0,.int .i64 0]) (by simp[results,Tryz.results186,go_sem,j.1.1,j.2.1]) rfl ⟨⟨_,_,rfl,s.out⟩,m.out _ _⟩
 ·have E:Hid (¬JW g k 0 0):=d;have e0:(g == 0)=false\/(g == 0)=true/\(k == 0)=false:=by
   by_cases h:g=0
   ·right;refine⟨by simp[h],?_⟩;have:k≠0:=fun J=>d ⟨h,J⟩
    simp[this]
   ·left;simp[h]
  clear d;by_cases u:b<i
  ·have s:Hid (Fg n f b g k 0 0):=⟨ps,i,y.out,Or.inl ⟨Or.inr u,rfl,rfl⟩⟩;have j:=o.out (.int .i64 0) (.int .i64 0);have G:Hid (Ac (((r.setCell ⟨w.heap.size+1,0,none⟩ (.int .i64 0)).setCell ⟨w.heap.size+1,1,none⟩ (.int .i64 0)).alloc (.cells #[.int .i64 ps,.int .i64 i] 38)) (w.heap.size+1) (.int .i64 0) (.int .i64 0)):=j;clear j;rcases e0 with e0 | ⟨e0,H⟩
   all_goals
    go_wp2;have j:=G.out;refine bodyPost_ret (v:=.agg #[.int .i64 0,.int .i64 0]) (by simp[results,Tryz.results186,go_sem,j.1.1,j.2.1]) rfl ⟨⟨_,_,rfl,s.out⟩,m.out _ _⟩
  ·have s:Hid (Fg n f b g k ps i):=⟨ps,i,y.out,Or.inr ⟨fun h=>by rcases h with h | h;exact E.out h;exact u h,rfl,rfl⟩⟩;rcases e0 with e0 | ⟨e0,H⟩
   all_goals
    go_wp2;have j:=o.out (.int .i64 ps) (.int .i64 i);refine bodyPost_ret (v:=.agg #[.int .i64 ps,.int .i64 i]) (by simp[results,Tryz.results186,go_sem,j.1.1,j.2.1]) rfl ⟨⟨_,_,rfl,s.out⟩,m.out _ _⟩
def RF(n:Nat)(f:Nat->AG)(s:AG):Prop:=∀i,i<8->Fg n f s.birth (s.ks i) (s.kb i) (s.ks i) (s.kb i)
variable{n:Nat}{f:Nat->AG}
theorem Dr.uniq{x ps pb e d:Int}(h:Dr n f x ps pb)(i:Dr n f x e d):ps=e/\pb=d:=by
 rcases h with⟨a,b,c,rfl,rfl⟩ | ⟨a,rfl,rfl⟩<;>rcases i with⟨g,b',c',rfl,rfl⟩ | ⟨g,rfl,rfl⟩
 ·exact⟨rfl,rfl⟩
 ·exact absurd ⟨a,b,c⟩ g
 ·exact absurd ⟨g,b',c'⟩ a
 ·exact⟨rfl,rfl⟩
theorem Fg.uniq{b ks kb rs rb d c:Int}(h:Fg n f b ks kb rs rb)(g:Fg n f b ks kb d c):rs=d/\rb=c:=by
 obtain⟨ps,m,j,h⟩:=h;obtain⟨l,k,i,g⟩:=g;obtain⟨rfl,rfl⟩:=j.uniq i;rcases h with⟨a,rfl,rfl⟩ | ⟨a,rfl,rfl⟩<;>rcases g with⟨e,rfl,rfl⟩ | ⟨e,rfl,rfl⟩
 ·exact⟨rfl,rfl⟩
 ·exact absurd a e
 ·exact absurd e a
 ·exact⟨rfl,rfl⟩
theorem XW(g:Nat->Int)(k:Nat)(e:k<8)(x y:Int):((Aj g).setIfInBounds (k*2) (.int .i64 x)).setIfInBounds (k*2+1) (.int .i64 y)=Aj (fun j=>if j=k*2 then x else if j=k*2+1 then y else g j):=by
 apply Array.ext_getElem?;intro i;rw[Array.getElem?_setIfInBounds,Array.getElem?_setIfInBounds];simp only[Array.size_setIfInBounds,Cy];by_cases a:i<16
 ·rw[ED _ a,ED _ a];by_cases b:k*2+1=i
  ·subst b;rw[if_pos rfl,if_pos (by omega),if_neg (by omega),if_pos rfl]
  ·rw[if_neg b];by_cases e0:k*2=i
   ·subst e0;rw[if_pos rfl,if_pos (by omega),if_pos rfl]
   ·rw[if_neg e0,if_neg (by omega),if_neg (by omega)]
 ·have c:(Aj g)[i]?=none:=Array.getElem?_eq_none (by rw[Cy];omega);have d:(Aj (fun j=>if j=k*2 then x else if j=k*2+1 then y else g j))[i]?=none:=Array.getElem?_eq_none (by rw[Cy];omega);rw[c,d,if_neg (by omega),if_neg (by omega)]
theorem zAG(g:Nat->Int)(k:Nat)(a:k<8)(w:World):(Instr.index 108 (.agg (Aj g)) (.int .i64 (k:Int))).run Tryz.prog w = .ok (.agg #[.int .i64 (g (k*2)),.int .i64 (g (k*2+1))]) w:=by
 rcases(by omega:k=0\/k=1\/k=2\/k=3\/k=4\/k=5\/k=6\/k=7)with rfl | rfl | rfl | rfl | rfl | rfl | rfl | rfl
 all_goals kernel_rfl
theorem zFh(g:Nat->Int)(k:Nat)(a:k<8)(w:World):(part 38 (Aj g) (k*2)).run Tryz.prog w = .ok (.agg #[.int .i64 (g (k*2)),.int .i64 (g (k*2+1))]) w:=by
 rcases(by omega:k=0\/k=1\/k=2\/k=3\/k=4\/k=5\/k=6\/k=7)with rfl | rfl | rfl | rfl | rfl | rfl | rfl | rfl
 all_goals kernel_rfl
theorem zGi(d:Nat)(a b c e:Int)(w:World):(Op.equalIn (d+2) 38 (.agg #[.int .i64 a,.int .i64 b]) (.agg #[.int .i64 c,.int .i64 e])).run Tryz.prog w = .ok (a == c && b == e) w:=by
 by_cases f:a=c<;>by_cases g:b=e
 all_goals simp[go_sem,f,g]
theorem zHE(w:World):(sizeOf 38).run Tryz.prog w = .ok 2 w:=by kernel_rfl
theorem XP{P:Program}(b:Nat->Bool)(F:Nat->Option Bool×Unit->Sem (ForInStep (Option Bool×Unit))):∀(L:List Nat) (w:World),(∀i∈L,∀s w,(F i s).run P w = .ok (if b i then .yield (none,())else .done (some false,())) w)->
 (forIn L (none,()) F).run P w = .ok (if L.all b then(none,())else(some false,())) w
 | [],w,_=>by simp[Sem.run_pure]
 | i :: L,w,hF=>by
  simp only[List.forIn_cons,Sem.run_bind,hF i (by simp),Result.andThen_ok,List.all_cons];by_cases a:b i=true
  ·simp only[a,if_true,Bool.true_and];exact XP b F L w (fun j c=>hF j (by simp[c]))
  ·simp[a,Sem.run_pure]
def Es(g h:Nat->Int):Bool:=(List.range 8).all fun i=>g (i*2) == h (i*2) && g (i*2+1) == h (i*2+1)
theorem Qc(g h:Nat->Int):Es g h=true↔∀i,i<8->g (i*2)=h (i*2)/\g (i*2+1)=h (i*2+1):=by
 simp[Es,List.all_eq_true]
theorem zA0(g h:Nat->Int)(d:Nat)(w:World):(Op.equalIn (d+3) 108 (.agg (Aj g)) (.agg (Aj h))).run Tryz.prog w = .ok (Es g h) w:=by
 rw[Op.equalIn];simp only[Sem.run_bind,run_underlying FI,Result.andThen_ok,zHE];rw[Std.Legacy.Range.forIn_eq_forIn_range'];have e:=XP (P:=Tryz.prog) (fun i=>g (i*2) == h (i*2) && g (i*2+1) == h (i*2+1)) (fun i (b:Option Bool×Unit)=>do
     let __do_lift <-part 38 (Aj g) (i*2)
     let __do_lift_1 <-part 38 (Aj h) (i*2)
     let __do_lift <-Op.equalIn (d+2) 38 __do_lift __do_lift_1
     if (!__do_lift)=true then pure (ForInStep.done (some false,()))else pure (ForInStep.yield (none,()))) (List.range 8) w (fun i hi s w=>by
  have a:i<8:=(by simpa using hi);simp only[Sem.run_bind,zFh _ i a,Result.andThen_ok,zGi];cases (g (i*2) == h (i*2) && g (i*2+1) == h (i*2+1))<;>simp[Sem.run_pure])
 have c:List.range' 0 (([:8]:Std.Legacy.Range).size) ([:8]:Std.Legacy.Range).step=List.range 8:=by rfl
 rw[c,e];simp only[Result.andThen_ok];unfold Es;cases ((List.range 8).all fun i=>g (i*2) == h (i*2) && g (i*2+1) == h (i*2+1))<;>simp[Sem.run_pure]
theorem Ps(g h:Nat->Int)(w:World):(binOp .eql 108 (.agg (Aj g)) (.agg (Aj h))).run Tryz.prog w = .ok (.bool (Es g h)) w:=by
 rw[run_eql_struct,zA0 g h 9997];rfl
theorem zCl(v R v1 S:Value)(n lo hi lo' hi':Nat)(f:Nat->AG)(s:AG)(w:World)(V:CD w lo hi v n f)(W:CQ w lo' hi' R v1 S s)(Q:s.kn=8) :
 Calls Tryz.prog 165 #[v,.agg #[R,v1,S]] w fun e w'=>AL (RF n f s) e/\Below w.heap.size w w':=by
 have Hv:Hid (CD w lo hi v n f):=V;obtain⟨m1,a,c,rfl,mc,g1⟩:=V;have Hs:Hid (CQ w lo' hi' R v1 S s):=W;obtain⟨rfl,⟨m2,E,kc,rfl,jA,g2⟩,rfl,m3⟩:=W;have H:Hid (s.kn=8):=Q;clear g1 g2 Q;go_enter Tryz.func165,Tryz.ntmps165;go_wp2_with fail;have r:=AC w (.cells #[.int .i64 s.birth,.slice E s.kn kc,.string s.data] 86);refine(OS _ _ _ lo' hi' s _ (Hs.out.A0 r) (Or.inr H.out)).mono ?_;rintro e b ⟨rfl,u⟩;have U:Hid (CY b w.heap.size (.int .i64 s.birth) (.slice E s.kn kc) (.string s.data)):=(CY.new w _ _ _ _).A0 u;have O:=A7 r u;have l:Hid ((Tryz.prog.info? 108).map (·.size)=some (B6 s).size):=by
  show _=_;rw[B6,Cy];exact GZ
 clear r u;have F:(#[Value.int .i64 0,Value.int .i64 0,Value.int .i64 0,Value.int .i64 0,Value.int .i64 0,Value.int .i64 0,Value.int .i64 0,Value.int .i64 0,Value.int .i64 0,Value.int .i64 0,Value.int .i64 0,Value.int .i64 0,Value.int .i64 0,Value.int .i64 0,Value.int .i64 0,Value.int .i64 0]:Array Value)=Aj (fun _=>0):=rfl;have y:Hid ((#[Value.int .i64 0,Value.int .i64 0,Value.int .i64 0,Value.int .i64 0,Value.int .i64 0,Value.int .i64 0,Value.int .i64 0,Value.int .i64 0,Value.int .i64 0,Value.int .i64 0,Value.int .i64 0,Value.int .i64 0,Value.int .i64 0,Value.int .i64 0,Value.int .i64 0,Value.int .i64 0]:Array Value)=Aj (fun _=>0)):=F;clear F;go_wp2_with (first
  | (refine wpList_store_row rfl 108 (.tmp 5) (.tmp 10) rfl b.heap.size (B6 s) rfl rfl 108 #[Value.int .i64 0,Value.int .i64 0,Value.int .i64 0,Value.int .i64 0,Value.int .i64 0,Value.int .i64 0,Value.int .i64 0,Value.int .i64 0,Value.int .i64 0,Value.int .i64 0,Value.int .i64 0,Value.int .i64 0,Value.int .i64 0,Value.int .i64 0,Value.int .i64 0,Value.int .i64 0] (heap_alloc_last _ _) l.out (by rw[B6,Cy];rfl) (IE _) ?_;rw[World.setRow_alloc_new])
  | (refine wpList_load_row rfl 108 (.tmp 5) rfl b.heap.size rfl 108 (B6 s) (0,0) _ ?hh FI rfl l.out ?_;(exact(Below.heap_alloc _ _ _ (by simp)).trans (heap_alloc_last _ _))))
 have aA:w.heap.size<b.heap.size:=U.out.1.lt
 go_loopw [12] (fun i wr=>∃(k:Nat) (g:Nat->Int),k<=8/\i = .int .i64 k/\(∀j,j<k->Fg n f s.birth (s.ks j) (s.kb j) (g (j*2)) (g (j*2+1)))/\CY wr w.heap.size (.int .i64 s.birth) (.slice E s.kn kc) (.string s.data)/\
  wr.heap[b.heap.size]?=some (.cells (B6 s) 108 (0,0))/\wr.heap[b.heap.size+1]?=some (.cells (Aj g) 108 (0,0))/\Below w.heap.size w wr) (fun i _=>8 - (intOf i).toNat)
 case atStart=>
  refine⟨0,fun _=>0,Nat.zero_le _,rfl,fun j Y=>absurd Y (Nat.not_lt_zero _),(U.out.A0 (AC _ _)).A0 (AC _ _),?_,?_,A7 (A7 O (AC _ _)) (AC _ _)⟩
  ·exact(Below.heap_alloc _ _ _ (by simp)).trans (heap_alloc_last _ _)
  ·have:=heap_alloc_last (b.alloc (.cells (B6 s) 108)) (.cells #[Value.int .i64 0,Value.int .i64 0,Value.int .i64 0,Value.int .i64 0,Value.int .i64 0,Value.int .i64 0,Value.int .i64 0,Value.int .i64 0,Value.int .i64 0,Value.int .i64 0,Value.int .i64 0,Value.int .i64 0,Value.int .i64 0,Value.int .i64 0,Value.int .i64 0,Value.int .i64 0] 108);rw[World.size_alloc]at this;rw[this,y.out]
 case round=>
  obtain⟨k,g,Q,rfl,p,hx,hK,hF,I⟩:=hrel;have d:Hid (∀j,j<k->Fg n f s.birth (s.ks j) (s.kb j) (g (j*2)) (g (j*2+1))):=p;have L:Hid (CY wr w.heap.size (.int .i64 s.birth) (.slice E s.kn kc) (.string s.data)):=hx;have J:Hid (wr.heap[b.heap.size]?=some (.cells (B6 s) 108 (0,0))):=hK;have G:Hid (wr.heap[b.heap.size+1]?=some (.cells (Aj g) 108 (0,0))):=hF;clear p hx hK hF;have D:b.heap.size+1<wr.heap.size:=(Array.getElem?_eq_some_iff.1 G.out).1;by_cases C:k<8
  ·have Z:(k:Int)<8:=(by omega);have A:∀w,(Instr.index 108 (.agg (B6 s)) (.int .i64 (k:Int))).run Tryz.prog w = .ok (.agg #[.int .i64 (s.ks k),.int .i64 (s.kb k)]) w:=fun w=>by
    have e:=zAG (BB s) k C w;have e0:BB s (k*2)=s.ks k:=(by unfold BB;rw[if_pos (by have:=H.out;omega),if_pos (by omega),show k*2 / 2=k by omega]);have e1:BB s (k*2+1)=s.kb k:=(by unfold BB;rw[if_pos (by have:=H.out;omega),if_neg (by omega),show(k*2+1) / 2=k by omega]);rw[e0,e1]at e;exact e
   obtain⟨⟨x0,x1⟩,⟨x2,x3⟩,⟨x4,x5⟩⟩:=L.out;have bA:w.heap.size<wr.heap.size:=(by omega);go_wp2_with fail;have t:=AC wr (.cells #[.int .i64 (s.ks k),.int .i64 (s.kb k)] 38);refine(zCV _ n lo hi f _ _ _ _ (Hv.out.A0 (A7 I t))).mono ?_;rintro e T ⟨⟨rs,rb,rfl,B⟩,z⟩;have N:Hid (Fg n f s.birth (s.ks k) (s.kb k) rs rb):=B;have m:=A7 t z;have q:Hid (T.heap[b.heap.size+1]?=some (.cells (Aj g) 108 (0,0))):=(m.block _ D).trans G.out;have K:Hid (T.heap[b.heap.size]?=some (.cells (B6 s) 108 (0,0))):=(m.block _ (by omega)).trans J.out;have M:Hid (CY T w.heap.size (.int .i64 s.birth) (.slice E s.kn kc) (.string s.data)):=L.out.A0 m;have P:=A7 I m;clear B z t m x0 x1 x2 x3 x4 x5 A G J L I;obtain⟨y0,y1⟩:=Au (i:=k*2) q.out (ED g (by omega));obtain⟨y2,y3⟩:=Au (i:=k*2+1) q.out (ED g (by omega));go_wp2;go_roundw
   case rel=>
    refine⟨k+1,fun j=>if j=k*2 then rs else if j=k*2+1 then rb else g j,by omega,by go_num,fun j Y=>?_,(M.out.other _ (by omega)).other _ (by omega),?_,?_,(P.setCell (by show _<=b.heap.size+1;omega) _).setCell (by show _<=b.heap.size+1;omega) _⟩
    ·by_cases e:j=k
     ·subst e;simp only[if_true];rw[if_neg (by omega)];exact N.out
     ·simp only;rw[if_neg (by omega),if_neg (by omega),if_neg (by omega),if_neg (by omega)];exact d.out j (by omega)
    ·rw[Below.heap_setCell _ _ _ _ (by show b.heap.size≠b.heap.size+1;omega),Below.heap_setCell _ _ _ _ (by show b.heap.size≠b.heap.size+1;omega)];exact K.out
    ·have:=P5 (o:=k*2+1) (.int .i64 rb) (P5 (o:=k*2) (.int .i64 rs) q.out);rw[XW g k C]at this;exact this
   case measure=>simp[intOf];omega
  ·obtain rfl:k=8:=(by omega);have X:∀w,(binOp .eql 108 (.agg (Aj g)) (.agg (B6 s))).run Tryz.prog w = .ok (.bool (Es g (BB s))) w:=fun w=>Ps g (BB s) w
   have x:Hid ((Tryz.prog.info? 108).map (·.size)=some (Aj g).size):=by
    show _=_;rw[Cy];exact GZ
   go_wp2_with (first
    | (refine wpList_load_row rfl 108 (.tmp 6) rfl (b.heap.size+1) rfl 108 (Aj g) (0,0) _ G.out FI rfl x.out ?_)
    | (refine wpList_load_row rfl 108 (.tmp 5) rfl b.heap.size rfl 108 (B6 s) (0,0) _ J.out FI rfl l.out ?_))
   go_ret;refine⟨⟨_,rfl,?_⟩,I⟩;rw[Qc];have e0:∀i,i<8->BB s (i*2)=s.ks i/\BB s (i*2+1)=s.kb i:=fun i hi=>by
    have:=H.out;refine⟨?_,?_⟩
    ·unfold BB;rw[if_pos (by omega),if_pos (by omega),show i*2 / 2=i by omega]
    ·unfold BB;rw[if_pos (by omega),if_neg (by omega),show(i*2+1) / 2=i by omega]
   constructor
   ·intro h i hi;have:=d.out i hi;rw[(h i hi).1,(h i hi).2,(e0 i hi).1,(e0 i hi).2]at this;exact this
   ·intro h i hi;rw[(e0 i hi).1,(e0 i hi).2];exact(d.out i hi).uniq (h i hi)
def Js(n:Nat)(f:Nat->AG)(s:AG):Prop:=Ag s\/FF s\/(IR s/\RF n f s)
def Lo(p:A5)(i:Nat):Prop:=¬Dr p.n p.s (p.h i) 0 0/\¬Has i p.h (p.h i)
def zHi(p:A5):Prop:=p.n<=200/\p.hn<=p.n/\(∀i,i<p.n->Js p.n p.s (p.s i))/\∀i,i<p.hn->Lo p i
theorem ZF(v J v1 K:Value)(n lo hi lo' hi':Nat)(f:Nat->AG)(s:AG)(w:World)(L:CD w lo hi v n f)(M:CQ w lo' hi' J v1 K s) :
 Calls Tryz.prog 117 #[v,.agg #[J,v1,K]] w fun e w'=>AL (Js n f s) e/\Below w.heap.size w w':=by
 have O:Hid (CD w lo hi v n f):=L;obtain⟨V,a,c,rfl,Y,P⟩:=L;have F:Hid (CQ w lo' hi' J v1 K s):=M;obtain⟨rfl,⟨W,G,kc,rfl,R,Q⟩,rfl,X⟩:=M;clear P Q;go_enter Tryz.func117,Tryz.ntmps117;go_wp2_with fail;have l:=AC w (.cells #[.int .i64 s.birth,.slice G s.kn kc,.string s.data] 86);refine(L3 _ _ _ lo' hi' s _ (F.out.A0 l)).mono ?_;rintro e S ⟨⟨t,rfl,d⟩,m⟩;have H:Hid (CY S w.heap.size (.int .i64 s.birth) (.slice G s.kn kc) (.string s.data)):=(CY.new w _ _ _ _).A0 m;have i:=A7 l m;clear l m;by_cases b:Ag s
 ·obtain rfl:t=true:=d.2 b;have C:Hid (Ag s):=b;clear d b;go_wp2;go_ret;exact⟨AL.yes (Or.inl C.out),i⟩
 ·obtain rfl:t=false:=BR d b;have C:Hid (¬Ag s):=b;clear d b;obtain⟨⟨u,x⟩,⟨y,z⟩,⟨A,B⟩⟩:=H.out;go_wp2_with fail;refine(YZ _ _ _ lo' hi' s _ (F.out.A0 i)).mono ?_;rintro e T ⟨⟨t,rfl,d⟩,o⟩;have k:Hid (CY T w.heap.size (.int .i64 s.birth) (.slice G s.kn kc) (.string s.data)):=H.out.A0 o;have j:=A7 i o;clear o i u x y z A B H;by_cases b:FF s
  ·obtain rfl:t=true:=d.2 b;have E:Hid (FF s):=b;clear d b;go_wp2;go_ret;exact⟨AL.yes (Or.inr (Or.inl E.out)),j⟩
  ·obtain rfl:t=false:=BR d b;have E:Hid (¬FF s):=b;clear d b;obtain⟨⟨u,x⟩,⟨y,z⟩,⟨A,B⟩⟩:=k.out;go_wp2_with fail;refine(zB6 _ _ _ lo' hi' s _ (F.out.A0 j)).mono ?_;rintro e U ⟨⟨t,rfl,d⟩,p⟩;have q:Hid (CY U w.heap.size (.int .i64 s.birth) (.slice G s.kn kc) (.string s.data)):=k.out.A0 p;have g:=A7 j p;clear p j u x y z A B k;by_cases b:IR s
   ·obtain rfl:t=true:=d.2 b;have D:Hid (IR s):=b;clear d b;obtain⟨⟨u,x⟩,⟨y,z⟩,⟨A,B⟩⟩:=q.out;go_wp2_with fail;refine(zCl _ _ _ _ n lo hi lo' hi' f s _ (O.out.A0 g) (F.out.A0 g) D.out.2.1).mono ?_;rintro e Z ⟨⟨t,rfl,d⟩,r⟩;have N:Hid (t=true↔RF n f s):=d;have I:=A7 g r;clear r g u x y z A B q d;go_wp2;go_ret;refine⟨⟨t,rfl,N.out.trans ⟨fun h=>Or.inr (Or.inr ⟨D.out,h⟩),fun h=>?_⟩⟩,I⟩;rcases h with h | h | h
    ·exact absurd h C.out
    ·exact absurd h E.out
    ·exact h.2
   ·obtain rfl:t=false:=BR d b;have D:Hid (¬IR s):=b;clear d b;go_wp2;go_ret;refine⟨AL.no fun h=>?_,g⟩;rcases h with h | h | h
    ·exact C.out h
    ·exact E.out h
    ·exact D.out h.1
theorem zCi(H v1:Value)(lo hi:Nat)(p:A5)(w:World)(Q:C6 w lo hi H v1 p) :
 Calls Tryz.prog 140 #[.agg #[H,v1]] w fun e w'=>AL (∀i,i<p.hn->Lo p i) e/\Below w.heap.size w w':=by
 have O:Hid (C6 w lo hi H v1 p):=Q;obtain⟨⟨m1,a,c,rfl,mc,W⟩,⟨m2,F,c',rfl,eA,X⟩⟩:=Q;unfold maxLen at m1 m2;clear W X;go_enter Tryz.func140,Tryz.ntmps140;go_wp2
 go_loopw [8] (fun i wr=>∃k:Nat,k<=p.hn/\i = .int .i64 k/\(∀j,j<k->Lo p j)/\Ac wr w.heap.size (.slice a p.n c) (.slice F p.hn c')/\Below w.heap.size w wr) (fun i _=>p.hn - (intOf i).toNat)
 case atStart=>exact⟨0,Nat.zero_le _,rfl,fun j hj=>absurd hj (Nat.not_lt_zero _),Ac.new _ _ _ _,AC _ _⟩
 case round=>
  obtain⟨k,hk,rfl,l,S,A⟩:=hrel;have g:Hid (∀j,j<k->Lo p j):=l;have E:Hid (Ac wr w.heap.size (.slice a p.n c) (.slice F p.hn c')):=S;clear l S;obtain⟨⟨I,J⟩,⟨K,L⟩⟩:=E.out;by_cases f:k<p.hn
  ·have R:(k:Int)<(p.hn:Int):=(by omega);have m:=O.out.2.A0 A;have r:Hid (D6 wr lo hi (.slice F p.hn c') p.hn p.h):=m;obtain⟨_,a2,P,y,_,z⟩:=m;simp only[Value.slice.injEq,true_and]at y;obtain⟨rfl,rfl⟩:=y;obtain⟨b,off,rfl,_,_,T⟩:=z (by omega);have Z:=T k f;clear T z;go_wp2_with fail;refine(ON _ p.n lo hi p.s _ _ (O.out.1.A0 A)).mono ?_;rintro e U ⟨⟨ps,D,rfl,v⟩,d⟩;have u:Hid (Dr p.n p.s (p.h k) ps D):=v;have N:Hid (Ac U w.heap.size (.slice a p.n c) (.slice (some ⟨b,off,none⟩) p.hn c')):=E.out.A0 d;have M:Hid (D6 U lo hi (.slice (some ⟨b,off,none⟩) k k) k p.h):=(r.out.A0 d).take (by omega) (by omega);have o:=A7 A d;clear v d I J K L E;by_cases C:ps=0/\D=0
   ·obtain⟨rfl,rfl⟩:=C;go_wp2;go_ret;exact⟨AL.no fun h=>(h k f).1 u.out,o⟩
   ·have V:Hid (¬Dr p.n p.s (p.h k) 0 0):=fun h=>by
     obtain⟨e0,G⟩:=u.out.uniq h;exact C ⟨e0,G⟩
    have e0:(ps == 0)=false\/(ps == 0)=true/\(D == 0)=false:=by
     by_cases h:ps=0
     ·right;refine⟨by simp[h],?_⟩;have:D≠0:=fun Y=>C ⟨h,Y⟩
      simp[this]
     ·left;simp[h]
    clear C;obtain⟨⟨I,J⟩,⟨K,L⟩⟩:=N.out;have bA:k<=c':=(by omega);by_cases B:Has k p.h (p.h k)
    ·have q:Hid (Has k p.h (p.h k)):=B;clear B;rcases e0 with e0 | ⟨e0,G⟩
     all_goals
      go_wp2_with fail;refine(Ou _ k lo hi p.h _ _ M.out).mono ?_;rintro e w2 ⟨⟨t,rfl,x⟩,rfl⟩;obtain rfl:t=true:=x.2 q.out;clear x;go_wp2;go_ret;exact⟨AL.no fun h=>(h k f).2 q.out,o⟩
    ·have q:Hid (¬Has k p.h (p.h k)):=B;clear B;rcases e0 with e0 | ⟨e0,G⟩
     all_goals
      go_wp2_with fail;refine(Ou _ k lo hi p.h _ _ M.out).mono ?_;rintro e w2 ⟨⟨t,rfl,x⟩,rfl⟩;obtain rfl:t=false:=BR x q.out;clear x I J K L;go_wp2;go_roundw
      case rel=>exact⟨k+1,by omega,by go_num,Bu f g.out ⟨V.out,q.out⟩,N.out,o⟩
      case measure=>simp[intOf];omega
  ·obtain rfl:k=p.hn:=(by omega);go_wp2;go_ret;exact⟨AL.yes g.out,A⟩
theorem qf:∀(m n:Nat) (h:Nat->Nat),(∀i,i<m->h i<n)->(∀i j,i<j->j<m->h i≠h j)->m<=n
 | 0,_,_,_,_=>Nat.zero_le _
 | m+1,0,h,hlt,_=>absurd (hlt 0 (by omega)) (Nat.not_lt_zero _)
 | m+1,n+1,h,hlt,hne=>by
  have key:=qf m n (fun i=>if h i<h m then h i else h i - 1) (fun i hi=>by
   have a:=hlt i (by omega);have b:=hne i m hi (by omega);have c:=hlt m (by omega);show(if h i<h m then h i else h i - 1)<n;split<;>omega) (fun i j d e=>by
   have a:=hne i j d (by omega);have b:=hne i m (by omega) (by omega);have c:=hne j m (by omega) (by omega);show(if h i<h m then h i else h i - 1)≠(if h j<h m then h j else h j - 1);split<;>split<;>omega)
  omega
variable{s:AG}
theorem YU(h:Ag s):s.birth=0:=h.1
theorem zFX(h:Js n f s)(a:¬Ag s):1<=s.birth:=by
 rcases h with h | h | h
 ·exact absurd h a
 ·exact h.1.1
 ·exact h.1.1.1
variable{p:A5}
theorem RN(h:Ag s\/Bm p s)(a:¬Ag s):1<=s.birth:=by
 rcases h with h | h
 ·exact absurd h a
 ·exact h.1.1
theorem NV{b ks kb:Int}(a:∀i,i<p.n->¬Ag (p.s i)->1<=(p.s i).birth):Fg p.n p.s b ks kb ks kb↔Mx p b ks kb:=by
 constructor
 ·rintro⟨ps,o,m,h⟩;rcases h with⟨h,rfl,rfl⟩ | ⟨h,rfl,rfl⟩
  ·exact Or.inl ⟨rfl,rfl⟩
  ·rcases m with⟨d,e,f,_,g⟩ | ⟨d,rfl,rfl⟩
   ·right;have j:=a ks.toNat (by omega) f;rw[<-g]at j;refine⟨⟨j,d,e,g.symm⟩,?_⟩;by_cases c:b<kb
    ·exact absurd (Or.inr c) h
    ·omega
   ·exact absurd (Or.inl ⟨rfl,rfl⟩) h
 ·rintro(⟨rfl,rfl⟩ | ⟨⟨d,e,f,k⟩,g⟩)
  ·by_cases c:0<p.n/\¬Ag (p.s 0)
   ·refine⟨0,(p.s 0).birth,Or.inl ⟨by omega,by omega,?_,rfl,rfl⟩,Or.inl ⟨Or.inl ⟨rfl,rfl⟩,rfl,rfl⟩⟩;exact c.2
   ·refine⟨0,0,Or.inr ⟨fun h=>c ⟨by omega,h.2.2⟩,rfl,rfl⟩,Or.inl ⟨Or.inl ⟨rfl,rfl⟩,rfl,rfl⟩⟩
  ·refine⟨ks,kb,Or.inl ⟨e,f,fun l=>?_,rfl,k.symm⟩,Or.inr ⟨fun h=>?_,rfl,rfl⟩⟩
   ·have:=YU l;omega
   ·rcases h with h | h
    ·have:=h.2;omega
    ·omega
theorem MK(p:A5):zHi p↔AY p:=by
 constructor
 ·rintro⟨o,y,m,l⟩;have f:∀i,i<p.n->¬Ag (p.s i)->1<=(p.s i).birth:=fun i hi=>zFX (m i hi)
  refine⟨o,fun i hi=>?_,fun i hi=>?_⟩
  ·rcases m i hi with h | h | h
   ·exact Or.inl h
   ·exact Or.inr ⟨h.1,Or.inl h.2⟩
   ·refine Or.inr ⟨h.1.1,Or.inr ⟨h.1.2.1,h.1.2.2,fun j r=>?_⟩⟩;exact(NV f).1 (h.2 j (by have:=h.1.2.1;omega))
  ·obtain⟨t,u⟩:=l i hi;have k:0<=p.h i/\p.h i<p.n/\¬Ag (p.s (p.h i).toNat):=by
    by_cases k:0<=p.h i/\p.h i<p.n/\¬Ag (p.s (p.h i).toNat)
    ·exact k
    ·exact absurd (Or.inr ⟨k,rfl,rfl⟩) t
   exact⟨k.1,k.2.1,k.2.2,u⟩
 ·rintro⟨o,m,l⟩;have f:∀i,i<p.n->¬Ag (p.s i)->1<=(p.s i).birth:=fun i hi=>RN (m i hi)
  refine⟨o,?_,fun i hi=>?_,fun i hi=>?_⟩
  ·refine qf p.hn p.n (fun i=>(p.h i).toNat) (fun i hi=>?_) (fun i j q r=>?_)
   ·obtain⟨a,b,_,_⟩:=l i hi;show(p.h i).toNat<p.n;omega
   ·obtain⟨a,b,_,d⟩:=l j r;obtain⟨v,b',_,_⟩:=l i (by omega);show(p.h i).toNat≠(p.h j).toNat;intro e;exact d ⟨i,q,by omega⟩
  ·rcases m i hi with h | h
   ·exact Or.inl h
   ·rcases h.2 with g | g
    ·exact Or.inr (Or.inl ⟨h.1,g⟩)
    ·exact Or.inr (Or.inr ⟨⟨h.1,g.1,g.2.1⟩,fun j r=>(NV f).2 (g.2.2 j (by omega))⟩)
  ·obtain⟨a,b,c,d⟩:=l i hi;refine⟨fun k=>?_,d⟩;rcases k with⟨_,_,_,w,x⟩ | ⟨k,_⟩
   ·have:=f (p.h i).toNat (by omega) c;omega
   ·exact k ⟨a,b,c⟩
theorem Mc(B v1:Value)(lo hi:Nat)(p:A5)(w:World)(D:C6 w lo hi B v1 p) :
 Calls Tryz.prog 75 #[.agg #[B,v1]] w fun e w'=>AL (AY p) e/\Below w.heap.size w w':=by
 have A:Hid (C6 w lo hi B v1 p):=D;obtain⟨⟨T,a,c,rfl,Z,O⟩,⟨U,z,c',rfl,V,P⟩⟩:=D;unfold maxLen at T U;clear O P;have o:Hid (Below w.heap.size w (w.alloc (.cells #[.slice a p.n c,.slice z p.hn c'] 26))):=AC _ _;by_cases hn:(200:Int)<p.n
 ·have H:Hid (¬AY p):=fun h=>by have:=h.1;omega
  go_enter Tryz.func75,Tryz.ntmps75;go_wp2;go_ret;exact⟨AL.no H.out,o.out⟩
 by_cases R:(p.n:Int)<p.hn
 ·have H:Hid (¬AY p):=fun h=>by have:=((MK p).2 h).2.1;omega
  go_enter Tryz.func75,Tryz.ntmps75;go_wp2;go_ret;exact⟨AL.no H.out,o.out⟩
 ·go_enter Tryz.func75,Tryz.ntmps75;go_wp2
  go_loopw [21] (fun i wr=>∃k:Nat,k<=p.n/\i = .int .i64 k/\(∀j,j<k->Js p.n p.s (p.s j))/\Ac wr w.heap.size (.slice a p.n c) (.slice z p.hn c')/\Below w.heap.size w wr) (fun i _=>p.n - (intOf i).toNat)
  case atStart=>exact⟨0,Nat.zero_le _,rfl,fun j Q=>absurd Q (Nat.not_lt_zero _),Ac.new _ _ _ _,o.out⟩
  case round=>
   obtain⟨k,Y,rfl,m,F,u⟩:=hrel;have l:Hid (∀j,j<k->Js p.n p.s (p.s j)):=m;have y:Hid (Ac wr w.heap.size (.slice a p.n c) (.slice z p.hn c')):=F;clear m F;obtain⟨⟨J,K⟩,⟨L,M⟩⟩:=y.out;have S:w.heap.size<wr.heap.size:=y.out.1.lt;by_cases r:k<p.n
   ·have E:(k:Int)<(p.n:Int):=(by omega);obtain⟨b,off,G,kc,rfl,hs⟩:=(A.out.1.A0 u).cells r;have C:Hid (Jo wr b (off+k*3) lo hi G kc (p.s k)):=hs;obtain⟨W,q1,X,_⟩:=hs;go_wp2_with fail;have f:=AC wr (.cells #[.int .i64 (p.s k).birth,.slice G (p.s k).kn kc,.string (p.s k).data] 86);refine(ZF _ _ _ _ p.n lo hi lo hi p.s (p.s k) _ (A.out.1.A0 (A7 u f)) (C.out.slot.A0 f)).mono ?_;rintro e I ⟨⟨t,rfl,v⟩,d⟩;have q:=A7 f d;have N:Hid (Ac I w.heap.size (.slice (some ⟨b,off,none⟩) p.n c) (.slice z p.hn c')):=y.out.A0 q;have g:=A7 u q;have x:Hid (t=true↔Js p.n p.s (p.s k)):=v;clear f d q v W q1 X J K L M y C;cases t
    ·go_wp2;go_ret;refine⟨AL.no fun h=>?_,g⟩;have:=((MK p).2 h).2.2.1 k r;exact absurd (x.out.2 this) (by simp)
    ·go_wp2;go_roundw
     case rel=>exact⟨k+1,by omega,by go_num,Bu r l.out (by simpa using x.out),N.out,g⟩
     case measure=>simp[intOf];omega
   ·obtain rfl:k=p.n:=(by omega);go_wp2_with fail;refine(zCi _ _ lo hi p _ (A.out.A0 u)).mono ?_;rintro e I ⟨⟨t,rfl,v⟩,d⟩;have x:Hid (t=true↔∀i,i<p.hn->Lo p i):=v;have g:=A7 u d;clear v d J K L M;go_wp2;go_ret;refine⟨⟨t,rfl,x.out.trans ⟨fun h=>?_,fun h=>?_⟩⟩,g⟩
    ·exact(MK p).1 ⟨by omega,by omega,l.out,h⟩
    ·exact((MK p).2 h).2.2.2
theorem Dr.some(n:Nat)(f:Nat->AG)(x:Int):∃ps a,Dr n f x ps a:=by
 by_cases h:0<=x/\x<n/\¬Ag (f x.toNat)
 ·exact⟨x,(f x.toNat).birth,Or.inl ⟨h.1,h.2.1,h.2.2,rfl,rfl⟩⟩
 ·exact⟨0,0,Or.inr ⟨h,rfl,rfl⟩⟩
theorem OH(v:Value)(n lo hi:Nat)(f:Nat->AG)(xs xb:Int)(w:World)(z:CD w lo hi v n f) :
 Calls Tryz.prog 157 #[v,.agg #[.int .i64 xs,.int .i64 xb]] w fun e w'=>AL (¬JW xs xb 0 0/\Dr n f xs xs xb) e/\Below w.heap.size w w':=by
 have x:Hid (CD w lo hi v n f):=z;obtain⟨I,a,c,rfl,J,D⟩:=z;clear D;have k:=AC w (.cells #[.int .i64 xs,.int .i64 xb] 38);have o:Hid (Ac (w.alloc (.cells #[.int .i64 xs,.int .i64 xb] 38)) w.heap.size (.int .i64 xs) (.int .i64 xb)):=Ac.new _ _ _ _;by_cases q:xs=0/\xb=0
 ·obtain⟨rfl,rfl⟩:=q;go_enter Tryz.func157,Tryz.ntmps157;go_wp2_with fail
  go_quiet (fail)
  go_wp2;go_ret;exact⟨AL.no fun h=>h.1 ⟨rfl,rfl⟩,Jv k _⟩
 ·have B:Hid (¬JW xs xb 0 0):=q;have e0:(xs == 0)=false\/(xs == 0)=true/\(xb == 0)=false:=by
   by_cases h:xs=0
   ·right;refine⟨by simp[h],?_⟩;have:xb≠0:=fun s=>q ⟨h,s⟩
    simp[this]
   ·left;simp[h]
  clear q;obtain⟨d,i,y⟩:=Dr.some n f xs;have m:Hid (Dr n f xs d i):=y;clear y;by_cases p:xs=d/\xb=i
  ·obtain⟨rfl,rfl⟩:=p;rcases e0 with e0 | ⟨e0,C⟩
   all_goals
    go_enter Tryz.func157,Tryz.ntmps157;go_wp2_with fail;go_region_held3 (fun w'=>w'.cell? ⟨w.heap.size,0,none⟩=some (.int .i64 xs)/\w'.cell? ⟨w.heap.size,1,none⟩=some (.int .i64 xb)) (go_keep)
     (first | (go_at_call 174;refine(ON _ n lo hi f _ _ ?_).mono ?_;(exact(x.out.A0 k).A0 ((Below.refl _ _).drew));rintro e G ⟨⟨ps,E,rfl,l⟩,g⟩;obtain⟨rfl,rfl⟩:=m.out.uniq l;clear l;have b:=Cr g;have t:=(o.out.A0 b).1.1;have u:=(o.out.A0 b).2.1))
    have j:=A7 k b;clear g b t u;go_wp2;go_ret;exact⟨AL.yes ⟨B.out,m.out⟩,j⟩
  ·have A:Hid (¬(xs=d/\xb=i)):=p;have r:(xs == d)=false\/(xs == d)=true/\(xb == i)=false:=by
    by_cases h:xs=d
    ·right;refine⟨by simp[h],?_⟩;have:xb≠i:=fun s=>p ⟨h,s⟩
     simp[this]
    ·left;simp[h]
   clear p;rcases e0 with e0 | ⟨e0,C⟩
   all_goals
    rcases r with r | ⟨r,H⟩
    all_goals
     go_enter Tryz.func157,Tryz.ntmps157;go_wp2_with fail;go_region_held3 (fun w'=>w'.cell? ⟨w.heap.size,0,none⟩=some (.int .i64 xs)/\w'.cell? ⟨w.heap.size,1,none⟩=some (.int .i64 xb)) (go_keep)
      (first | (go_at_call 174;refine(ON _ n lo hi f _ _ ?_).mono ?_;(exact(x.out.A0 k).A0 ((Below.refl _ _).drew));rintro e G ⟨⟨ps,E,rfl,l⟩,g⟩;obtain⟨rfl,rfl⟩:=m.out.uniq l;clear l;have b:=Cr g;have t:=(o.out.A0 b).1.1;have u:=(o.out.A0 b).2.1))
     have j:=A7 k b;clear g b t u;go_wp2;go_ret;refine⟨AL.no fun h=>?_,j⟩;obtain⟨F,q1⟩:=h.2.uniq m.out;exact A.out ⟨F,q1⟩
theorem OI{xs xb:Int}(j:AY p):(¬JW xs xb 0 0/\Dr p.n p.s xs xs xb)↔B5 p xs xb:=by
 constructor
 ·rintro⟨h,f | ⟨_,g,i⟩⟩
  ·obtain⟨a,b,c,_,e⟩:=f;have:=RN (j.2.1 xs.toNat (by omega)) c;exact⟨by omega,a,b,e.symm⟩
  ·exact absurd ⟨g,i⟩ h
 ·rintro⟨a,b,c,d⟩;refine⟨fun h=>by have:=h.2;omega,Or.inl ⟨b,c,fun k=>?_,rfl,d.symm⟩⟩;have:=YU k;omega
end Go.Proofs.YtehdoekmnicdiaaGreatDoor
