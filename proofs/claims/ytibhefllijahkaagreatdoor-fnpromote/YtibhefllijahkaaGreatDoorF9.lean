/- A part of the proof. -/
import Derived.Test.YtibhefllijahkaaGreatDoorF8
import Derived.Laws.CopyOwn
import Derived.Deep.RegionLaw
import Derived.Deep.WholeRow
set_option linter.unusedVariables false
set_option maxRecDepth 20000
set_option maxHeartbeats 4000000
namespace Go.Proofs.YtibhefllijahkaaGreatDoor
open Go.RowKit
variable{P:Program}
theorem zD1(w:World)(p sT ty elem:TypeId)(size g o b h:Nat)(a:Addr)(c m:Nat)(d:Array Value)(t:TypeId)(cs:List Value)
 (u:P.underlying p=some (.slice elem)) (hs:(P.info? elem).map (·.size)=some size)
 (r:w.heap[g]?=some (.cells d t (0,0))) (hn:cs.length=Nat.min c b*size)
 (l:∀j v,cs[j]?=some v->w.cell? (a.add j)=some v) (k:o+cs.length<=d.size) (q:∀v∈cs,v.oneCell'=true) :
 (Builtin.copy_ #[p,sT] ty #[.slice (some ⟨g,o,none⟩) b h,.slice (some a) c m]).run P w =
  .ok (goInt (Nat.min c b)) (w.setRow g (d.toList.take o ++ cs ++ d.toList.drop (o+cs.length)).toArray):=by
 have s:=run_loadCells_list (P:=P) w a cs l;have n:=run_storeCells_at P g o t cs 0 d w r (by simpa using k) q;cases hq:P.info? elem with
 | none=>simp[hq]at hs
 | some i=>
  have hi:i.size=size:=(by simpa[hq]using hs);have e:Nat.min c b*i.size=cs.length:=(by rw[hi,hn]);simp[Builtin.copy_,run_underlying u,Builtin.lenOf,Builtin.firstCells,sizeOf,typeInfo,hq,e,s,n]
theorem zCj(w:World)(g sT ty elem:TypeId)(size:Nat)(d a:Option Addr)(c b e:Nat)
 (h:P.underlying g=some (.slice elem)) (hs:(P.info? elem).map (·.size)=some size) :
 (Builtin.copy_ #[g,sT] ty #[.slice d c b,.slice a 0 e]).run P w = .ok (goInt 0) w:=by
 cases hq:P.info? elem with
 | none=>simp[hq]at hs
 | some i=>
  cases a with
  | none=>cases d<;>simp[Builtin.copy_,run_underlying h,Builtin.lenOf,Builtin.firstCells,sizeOf,typeInfo,hq,storeCells]
  | some a=>cases d<;>simp[Builtin.copy_,run_underlying h,Builtin.lenOf,Builtin.firstCells,sizeOf,typeInfo,hq,storeCells,loadCells,loadCellsFrom]
def BA(s:AD)(j:Nat):Int:=if j / 2<s.kn then(if j % 2=0 then s.ks (j / 2)else s.kb (j / 2))else 0
def BO(f:Nat->Int):Array Value:=((List.range 16).map fun j=>Value.int .i64 (f j)).toArray
def BB(s:AD):Array Value:=BO (BA s)
theorem Ea(f:Nat->Int):(BO f).size=16:=by simp[BO]
theorem I9(f:Nat->Int){j:Nat}(h:j<16):(BO f)[j]?=some (.int .i64 (f j)):=by simp[BO,h]
theorem L1(f:Nat->Int):(BO f).all (·.oneCell')=true:=by
 unfold BO;rw[Array.all_eq_true_iff_forall_mem];intro v hv;simp at hv;obtain⟨j,_,rfl⟩:=hv;rfl
theorem zj{f g:Nat->Int}(h:∀j,j<16->f j=g j):BO f=BO g:=by
 unfold BO;congr 1;apply List.map_congr_left;intro j a;rw[h j (by simpa using a)]
theorem Lr:(Tryz.prog.info? 222).map (·.size)=some 16:=by kernel_rfl
theorem Z0:(Tryz.prog.info? 38).map (·.size)=some 2:=by kernel_rfl
theorem IZ:Tryz.prog.underlying 222=some (.array 8 38):=by kernel_rfl
theorem zBN(w:World)(b a c:Obj):(((w.alloc b).alloc a).alloc c).heap[w.heap.size+1]?=some a/\(((w.alloc b).alloc a).alloc c).heap[w.heap.size+1+1]?=some c/\w.heap.size+1+1<(((w.alloc b).alloc a).alloc c).heap.size:=by
 refine⟨?_,?_,by simp⟩
 ·rw[Below.heap_alloc _ _ _ (by simp)];have:=heap_alloc_last (w.alloc b) a;rw[World.size_alloc]at this;exact this
 ·have:=heap_alloc_last ((w.alloc b).alloc a) c;rw[World.size_alloc,World.size_alloc]at this;exact this
theorem AI.setRow(w:World)(g:Nat)(cs:Array Value):AI (fun k=>k=g) w (w.setRow g cs):=
 ⟨rfl,rfl,rfl,by simp[World.setRow],fun k _ hs=>setRow_other w g k cs hs⟩
theorem zCt{r:Array Oper}{o:Oper}{a:Act}{w:World}{K:Act->World->Prop}{Q:Exit->Act->World->Prop}{E:Prop}(x:o.guard=none)(d s:Operand)
 (A:o.op = .call {callee:=.builtin .copy,args:=#[d,s],argTypes:=#[39,39]})
 (g:Nat) (y:Option Addr) (kc:Nat) (c:AD) (z:a.eval d = .slice (some ⟨g,0,none⟩) 8 8) (hs:a.eval s = .slice y c.kn kc)
 (u:w.heap[g]?=some (.cells (BO fun _=>0) 222 (0,0))) (q:c.kn=0\/(c.kn=8/\∃b off,y=some ⟨b,off,none⟩/\∀i,i<c.kn->w.cell? ⟨b,off+i*2,none⟩=some (.int .i64 (c.ks i))/\w.cell? ⟨b,off+i*2+1,none⟩=some (.int .i64 (c.kb i))))
 (h:∀w' v,Hid (w'.heap[g]?=some (.cells (BB c) 222 (0,0)))->AI (fun k=>k=g) w w'->K (a.put o.dst v) w') :
 if Region.wanted o (yielded r a.tmps)=true then Oper.wp Tryz.prog o a w K Q else E:=by
 have D:Region.wanted o (yielded r a.tmps)=true:=by simp[Region.wanted,x]
 rw[if_pos D];have B:Tryz.prog.underlying 39=some (.slice 38):=by kernel_rfl
 rcases q with q | ⟨q,b,off,rfl,C⟩
 ·rw[q]at hs;have l:=zCj (P:=Tryz.prog) w 39 39 o.type 38 2 (some ⟨g,0,none⟩) y 8 8 kc B Z0;unfold Oper.wp;simp[execOp,A,resolve,invoke,builtin,z,hs,l,Result.andThen];refine h _ _ ?_ (AI.refl _ _);show _=_;rw[u];have:BB c=BO (fun _=>0):=zj fun j _=>by unfold BA;rw[if_neg (by omega)]
  rw[this]
 ·rw[q]at hs;have l:=zD1 (P:=Tryz.prog) w 39 39 o.type 38 2 g 0 8 8 ⟨b,off,none⟩ 8 kc (BO fun _=>0) 222 (BB c).toList B Z0 u (by simp[BB,BO]) (fun j v t=>by
   have p:j<16:=by
    have:=(List.getElem?_eq_some_iff.1 t).1;simpa[BB,Ea]using this
   have e:(BB c).toList[j]?=some (.int .i64 (BA c j)):=(by rw[Array.getElem?_toList];exact I9 (BA c) p);rw[e]at t;simp only[Option.some.injEq]at t;subst t;have m:(⟨b,off,none⟩:Addr).add j=⟨b,off+j,none⟩:=(by unfold Addr.add;split<;>simp_all);rw[m];unfold BA;rw[if_pos (by omega)];have n:=C (j / 2) (by omega);split
   ·rw[show off+j=off+j / 2*2 by omega];exact n.1
   ·rw[show off+j=off+j / 2*2+1 by omega];exact n.2) (by simp[BB,BO]) (fun v hv=>(Array.all_eq_true_iff_forall_mem.1 (L1 _)) v (by simpa[BB]using hv))
  unfold Oper.wp;simp[execOp,A,resolve,invoke,builtin,z,hs,l,Result.andThen];refine h _ _ ?_ (AI.setRow _ _ _);show _=_;rw[setRow_heap w g _ _ 222 (0,0) u];have e0:((BO fun _=>0).toList.drop 16) = []:=List.drop_eq_nil_of_le (by simp[BO]);simp[BB,Ea,e0]
theorem OT(A v1 B:Value)(lo hi:Nat)(s:AD)(w:World)(I:Cx w lo hi A v1 B s)(u:s.kn=0\/s.kn=8) :
 Calls Tryz.prog 196 #[.agg #[A,v1,B]] w fun e w'=>e = .returned (.agg (BB s))/\Below w.heap.size w w':=by
 obtain⟨rfl,⟨L,a,c,rfl,V,z⟩,rfl,M⟩:=I;unfold maxLen at L M;have C:Hid (0<s.kn->∃b off,a=some ⟨b,off,none⟩/\lo<=b/\b<hi/\∀i,i<s.kn->w.cell? ⟨b,off+i*2,none⟩=some (.int .i64 (s.ks i))/\w.cell? ⟨b,off+i*2+1,none⟩=some (.int .i64 (s.kb i))):=z;have G:Hid (s.kn=0\/s.kn=8):=u;clear z u;go_enter Tryz.func196,Tryz.ntmps196;go_wp2_with fail;obtain⟨W,o⟩:∃W:World,W=((w.alloc (.cells #[.int .i64 s.birth,.slice a s.kn c,.string s.data] 75)).alloc (.cells #[Value.int .i64 0,Value.int .i64 0,Value.int .i64 0,Value.int .i64 0,Value.int .i64 0,Value.int .i64 0,Value.int .i64 0,Value.int .i64 0,Value.int .i64 0,Value.int .i64 0,Value.int .i64 0,Value.int .i64 0,Value.int .i64 0,Value.int .i64 0,Value.int .i64 0,Value.int .i64 0] 222)).alloc (.cells #[Value.int .i64 0,Value.int .i64 0,Value.int .i64 0,Value.int .i64 0,Value.int .i64 0,Value.int .i64 0,Value.int .i64 0,Value.int .i64 0,Value.int .i64 0,Value.int .i64 0,Value.int .i64 0,Value.int .i64 0,Value.int .i64 0,Value.int .i64 0,Value.int .i64 0,Value.int .i64 0] 222):=⟨_,rfl⟩;have y:(#[Value.int .i64 0,Value.int .i64 0,Value.int .i64 0,Value.int .i64 0,Value.int .i64 0,Value.int .i64 0,Value.int .i64 0,Value.int .i64 0,Value.int .i64 0,Value.int .i64 0,Value.int .i64 0,Value.int .i64 0,Value.int .i64 0,Value.int .i64 0,Value.int .i64 0,Value.int .i64 0]:Array Value)=BO (fun _=>0):=rfl;have r:Below w.heap.size w W:=by rw[o];exact A7 (A7 (A9 _ _) (A9 _ _)) (A9 _ _)
 have H:Hid (CX W w.heap.size (.int .i64 s.birth) (.slice a s.kn c) (.string s.data)):=by rw[o];exact((CX.new w _ _ _ _).A0 (A9 _ _)).A0 (A9 _ _)
 have d:=zBN w (.cells #[.int .i64 s.birth,.slice a s.kn c,.string s.data] 75) (.cells #[Value.int .i64 0,Value.int .i64 0,Value.int .i64 0,Value.int .i64 0,Value.int .i64 0,Value.int .i64 0,Value.int .i64 0,Value.int .i64 0,Value.int .i64 0,Value.int .i64 0,Value.int .i64 0,Value.int .i64 0,Value.int .i64 0,Value.int .i64 0,Value.int .i64 0,Value.int .i64 0] 222) (.cells #[Value.int .i64 0,Value.int .i64 0,Value.int .i64 0,Value.int .i64 0,Value.int .i64 0,Value.int .i64 0,Value.int .i64 0,Value.int .i64 0,Value.int .i64 0,Value.int .i64 0,Value.int .i64 0,Value.int .i64 0,Value.int .i64 0,Value.int .i64 0,Value.int .i64 0,Value.int .i64 0] 222);rw[<-o]at d;have F:Hid (W.heap[w.heap.size+1]?=some (.cells (BO fun _=>0) 222 (0,0))):=d.1;have E:Hid (W.heap[w.heap.size+1+1]?=some (.cells (BO fun _=>0) 222 (0,0))):=d.2.1;have K:w.heap.size+1+1<W.heap.size:=d.2.2;clear d;have D:Hid (s.kn=0\/(s.kn=8/\∃b off,a=some ⟨b,off,none⟩/\∀i,i<s.kn->W.cell? ⟨b,off+i*2,none⟩=some (.int .i64 (s.ks i))/\W.cell? ⟨b,off+i*2+1,none⟩=some (.int .i64 (s.kb i)))):=by
  rcases G.out with h | h
  ·exact Or.inl h
  ·obtain⟨b,off,J,_,_,p⟩:=C.out (by omega);exact Or.inr ⟨h,b,off,J,fun i hi=>⟨(r.cell (AZ (p i hi).1)).trans (p i hi).1,(r.cell (AZ (p i hi).2)).trans (p i hi).2⟩⟩
 rw[<-o];clear o y;obtain⟨⟨N,O⟩,⟨Q,R⟩,⟨S,T⟩⟩:=H.out
 go_region_law (refine zCt rfl (.tmp 4) (.tmp 6) rfl (w.heap.size+1+1) a c s (by simp[Act.eval]) (by simp[Act.eval]) E.out D.out ?_;intro x U q l)
 have n:x.heap[w.heap.size+1]?=some (.cells (BO fun _=>0) 222 (0,0)):=(l.block _ (by show _<W.heap.size;omega) (by omega)).trans F.out;have m:Hid (x.heap[w.heap.size+1]?=some (.cells (BO fun _=>0) 222 (0,0))):=n;have t:Below w.heap.size w x:=r.drew.trans (l.A0 (by show _<=W.heap.size;omega) (by intro k u;omega));clear n l N O Q R S T;have j:(Tryz.prog.info? 222).map (·.size)=some (BB s).size:=by rw[BB,Ea];exact Lr
 have g:Hid ((Tryz.prog.info? 222).map (·.size)=some (BB s).size):=j;clear j;go_wp2_with (first
  | (refine wpList_load_row rfl 222 (.tmp 3) rfl (w.heap.size+1+1) rfl 222 (BB s) (0,0) _ q.out IZ rfl g.out ?_)
  | (refine wpList_store_row rfl 222 (.tmp 2) (.tmp 8) rfl (w.heap.size+1) (BB s) rfl rfl 222 (BO fun _=>0) m.out g.out (by rw[BB,Ea,Ea]) (L1 _) ?_))
 refine bodyPost_ret (v:=.agg (BB s)) (results_cell_row (P:=Tryz.prog) (ty:=222) Tryz.results196 _ _ (w.heap.size+1) 222 (BB s) (0,0) _ rfl (setRow_heap _ _ _ _ _ _ m.out) IZ rfl g.out) rfl ⟨rfl,?_⟩;exact below_setRow t (by omega) _
def Fo(n:Nat)(f:Nat->AD)(b ks kb rs rb:Int):Prop:=
 ∃ps pb,Do n f ks ps pb/\(((JX ks kb 0 0\/b<pb)/\rs=0/\rb=0)\/(¬(JX ks kb 0 0\/b<pb)/\rs=ps/\rb=pb))
theorem zCM(v:Value)(n lo hi:Nat)(f:Nat->AD)(g k b:Int)(w:World)(C:Bb w lo hi v n f) :
 Calls Tryz.prog 201 #[v,.agg #[.int .i64 g,.int .i64 k],.int .i64 b] w fun e w'=>(∃rs rb,e = .returned (.agg #[.int .i64 rs,.int .i64 rb])/\Fo n f b g k rs rb)/\Below w.heap.size w w':=by
 have F:Hid (Bb w lo hi v n f):=C;obtain⟨M,a,c,rfl,N,I⟩:=C;clear I;have t:Hid (Below w.heap.size w ((w.alloc (.cells #[.int .i64 g,.int .i64 k] 38)).alloc (.cells #[.int .i64 0,.int .i64 0] 38))):=A7 (A9 _ _) (A9 _ _);go_enter Tryz.func201,Tryz.ntmps201;go_wp2_with fail;refine(OK _ n lo hi f _ _ (F.out.A0 t.out)).mono ?_;rintro e r ⟨⟨ps,i,rfl,D⟩,l⟩;have y:Hid (Do n f g ps i):=D;have A:Hid (Ad r w.heap.size (.int .i64 g) (.int .i64 k)):=((Ad.new w _ _ _).A0 (A9 _ _)).A0 l;have x:Hid (Ad r (w.heap.size+1) (.int .i64 0) (.int .i64 0)):=by
  have:=(Ad.new (w.alloc (.cells #[.int .i64 g,.int .i64 k] 38)) (.int .i64 0) (.int .i64 0) 38).A0 l;rw[World.size_alloc]at this;exact this
 have z:=A7 t.out l;have L:w.heap.size<r.heap.size:=A.out.1.lt;have K:w.heap.size+1<r.heap.size:=x.out.1.lt;clear D l;obtain⟨⟨O,P⟩,⟨Q,R⟩⟩:=A.out;obtain⟨⟨S,T⟩,⟨U,V⟩⟩:=x.out;have B:=fun p q=>(x.out.put p q).A0 (A9 _ (.cells #[.int .i64 ps,.int .i64 i] 38))
 have o:Hid (∀p q,Ad (((r.setCell ⟨w.heap.size+1,0,none⟩ p).setCell ⟨w.heap.size+1,1,none⟩ q).alloc (.cells #[.int .i64 ps,.int .i64 i] 38)) (w.heap.size+1) p q):=B;clear B;have m:Hid (∀p q,Below w.heap.size w (((r.setCell ⟨w.heap.size+1,0,none⟩ p).setCell ⟨w.heap.size+1,1,none⟩ q).alloc (.cells #[.int .i64 ps,.int .i64 i] 38))):=fun p q=>((z.setCell (by show _<=w.heap.size+1;omega) _).setCell (by show _<=w.heap.size+1;omega) _).alloc (by simp;omega) _
 by_cases d:JX g k 0 0
 ·obtain⟨rfl,rfl⟩:=d;have s:Hid (Fo n f b 0 0 0 0):=⟨ps,i,y.out,Or.inl ⟨Or.inl ⟨rfl,rfl⟩,rfl,rfl⟩⟩;go_wp2;have j:=o.out (.int .i64 0) (.int .i64 0);refine bodyPost_ret (v:=.agg #[.int .i64 0,.int .i64 0]) (by simp[results,Tryz.results201,go_sem,j.1.1,j.2.1]) rfl ⟨⟨_,_,rfl,s.out⟩,m.out _ _⟩
 ·have E:Hid (¬JX g k 0 0):=d;have e0:(g == 0)=false\/(g == 0)=true/\(k == 0)=false:=by
   by_cases h:g=0
   ·right;refine⟨by simp[h],?_⟩;have:k≠0:=fun J=>d ⟨h,J⟩
    simp[this]
   ·left;simp[h]
  clear d;by_cases u:b<i
  ·have s:Hid (Fo n f b g k 0 0):=⟨ps,i,y.out,Or.inl ⟨Or.inr u,rfl,rfl⟩⟩;have j:=o.out (.int .i64 0) (.int .i64 0);have G:Hid (Ad (((r.setCell ⟨w.heap.size+1,0,none⟩ (.int .i64 0)).setCell ⟨w.heap.size+1,1,none⟩ (.int .i64 0)).alloc (.cells #[.int .i64 ps,.int .i64 i] 38)) (w.heap.size+1) (.int .i64 0) (.int .i64 0)):=j;clear j;rcases e0 with e0 | ⟨e0,H⟩
   all_goals
    go_wp2;have j:=G.out;refine bodyPost_ret (v:=.agg #[.int .i64 0,.int .i64 0]) (by simp[results,Tryz.results201,go_sem,j.1.1,j.2.1]) rfl ⟨⟨_,_,rfl,s.out⟩,m.out _ _⟩
  ·have s:Hid (Fo n f b g k ps i):=⟨ps,i,y.out,Or.inr ⟨fun h=>by rcases h with h | h;exact E.out h;exact u h,rfl,rfl⟩⟩;rcases e0 with e0 | ⟨e0,H⟩
   all_goals
    go_wp2;have j:=o.out (.int .i64 ps) (.int .i64 i);refine bodyPost_ret (v:=.agg #[.int .i64 ps,.int .i64 i]) (by simp[results,Tryz.results201,go_sem,j.1.1,j.2.1]) rfl ⟨⟨_,_,rfl,s.out⟩,m.out _ _⟩
def RB(n:Nat)(f:Nat->AD)(s:AD):Prop:=∀i,i<8->Fo n f s.birth (s.ks i) (s.kb i) (s.ks i) (s.kb i)
variable{n:Nat}{f:Nat->AD}
theorem Do.uniq{x ps pb e d:Int}(h:Do n f x ps pb)(i:Do n f x e d):ps=e/\pb=d:=by
 rcases h with⟨a,b,c,rfl,rfl⟩ | ⟨a,rfl,rfl⟩<;>rcases i with⟨g,b',c',rfl,rfl⟩ | ⟨g,rfl,rfl⟩
 ·exact⟨rfl,rfl⟩
 ·exact absurd ⟨a,b,c⟩ g
 ·exact absurd ⟨g,b',c'⟩ a
 ·exact⟨rfl,rfl⟩
variable{rs rb:Int}
theorem Fo.uniq{b ks kb d c:Int}(h:Fo n f b ks kb rs rb)(g:Fo n f b ks kb d c):rs=d/\rb=c:=by
 obtain⟨ps,m,j,h⟩:=h;obtain⟨l,k,i,g⟩:=g;obtain⟨rfl,rfl⟩:=j.uniq i;rcases h with⟨a,rfl,rfl⟩ | ⟨a,rfl,rfl⟩<;>rcases g with⟨e,rfl,rfl⟩ | ⟨e,rfl,rfl⟩
 ·exact⟨rfl,rfl⟩
 ·exact absurd a e
 ·exact absurd e a
 ·exact⟨rfl,rfl⟩
theorem zk(g:Nat->Int)(k:Nat)(e:k<8)(x y:Int):((BO g).setIfInBounds (k*2) (.int .i64 x)).setIfInBounds (k*2+1) (.int .i64 y)=BO (fun j=>if j=k*2 then x else if j=k*2+1 then y else g j):=by
 apply Array.ext_getElem?;intro i;rw[Array.getElem?_setIfInBounds,Array.getElem?_setIfInBounds];simp only[Array.size_setIfInBounds,Ea];by_cases a:i<16
 ·rw[I9 _ a,I9 _ a];by_cases b:k*2+1=i
  ·subst b;rw[if_pos rfl,if_pos (by omega),if_neg (by omega),if_pos rfl]
  ·rw[if_neg b];by_cases e0:k*2=i
   ·subst e0;rw[if_pos rfl,if_pos (by omega),if_pos rfl]
   ·rw[if_neg e0,if_neg (by omega),if_neg (by omega)]
 ·have c:(BO g)[i]?=none:=Array.getElem?_eq_none (by rw[Ea];omega);have d:(BO (fun j=>if j=k*2 then x else if j=k*2+1 then y else g j))[i]?=none:=Array.getElem?_eq_none (by rw[Ea];omega);rw[c,d,if_neg (by omega),if_neg (by omega)]
theorem zDq(g:Nat->Int)(k:Nat)(a:k<8)(w:World):(Instr.index 222 (.agg (BO g)) (.int .i64 (k:Int))).run Tryz.prog w = .ok (.agg #[.int .i64 (g (k*2)),.int .i64 (g (k*2+1))]) w:=by
 rcases(by omega:k=0\/k=1\/k=2\/k=3\/k=4\/k=5\/k=6\/k=7)with rfl | rfl | rfl | rfl | rfl | rfl | rfl | rfl
 all_goals kernel_rfl
theorem zFm(g:Nat->Int)(k:Nat)(a:k<8)(w:World):(part 38 (BO g) (k*2)).run Tryz.prog w = .ok (.agg #[.int .i64 (g (k*2)),.int .i64 (g (k*2+1))]) w:=by
 rcases(by omega:k=0\/k=1\/k=2\/k=3\/k=4\/k=5\/k=6\/k=7)with rfl | rfl | rfl | rfl | rfl | rfl | rfl | rfl
 all_goals kernel_rfl
theorem zHO(d:Nat)(a b c e:Int)(w:World):(Op.equalIn (d+2) 38 (.agg #[.int .i64 a,.int .i64 b]) (.agg #[.int .i64 c,.int .i64 e])).run Tryz.prog w = .ok (a == c && b == e) w:=by
 by_cases g:a=c<;>by_cases h:b=e
 all_goals simp[go_sem,g,h]
theorem zHv(w:World):(sizeOf 38).run Tryz.prog w = .ok 2 w:=by kernel_rfl
theorem Vq{P:Program}(b:Nat->Bool)(F:Nat->Option Bool×Unit->Sem (ForInStep (Option Bool×Unit))):∀(L:List Nat) (w:World),(∀i∈L,∀s w,(F i s).run P w = .ok (if b i then .yield (none,())else .done (some false,())) w)->
 (forIn L (none,()) F).run P w = .ok (if L.all b then(none,())else(some false,())) w
 | [],w,_=>by simp[Sem.run_pure]
 | i :: L,w,hF=>by
  simp only[List.forIn_cons,Sem.run_bind,hF i (by simp),Result.andThen_ok,List.all_cons];by_cases a:b i=true
  ·simp only[a,if_true,Bool.true_and];exact Vq b F L w (fun j c=>hF j (by simp[c]))
  ·simp[a,Sem.run_pure]
def GI(g h:Nat->Int):Bool:=(List.range 8).all fun i=>g (i*2) == h (i*2) && g (i*2+1) == h (i*2+1)
theorem Ux(g h:Nat->Int):GI g h=true↔∀i,i<8->g (i*2)=h (i*2)/\g (i*2+1)=h (i*2+1):=by
 simp[GI,List.all_eq_true]
theorem zDb(g h:Nat->Int)(d:Nat)(w:World):(Op.equalIn (d+3) 222 (.agg (BO g)) (.agg (BO h))).run Tryz.prog w = .ok (GI g h) w:=by
 rw[Op.equalIn];simp only[Sem.run_bind,run_underlying IZ,Result.andThen_ok,zHv];rw[Std.Legacy.Range.forIn_eq_forIn_range'];have e:=Vq (P:=Tryz.prog) (fun i=>g (i*2) == h (i*2) && g (i*2+1) == h (i*2+1)) (fun i (b:Option Bool×Unit)=>do
     let __do_lift <-part 38 (BO g) (i*2)
     let __do_lift_1 <-part 38 (BO h) (i*2)
     let __do_lift <-Op.equalIn (d+2) 38 __do_lift __do_lift_1
     if (!__do_lift)=true then pure (ForInStep.done (some false,()))else pure (ForInStep.yield (none,()))) (List.range 8) w (fun i hi s w=>by
  have a:i<8:=(by simpa using hi);simp only[Sem.run_bind,zFm _ i a,Result.andThen_ok,zHO];cases (g (i*2) == h (i*2) && g (i*2+1) == h (i*2+1))<;>simp[Sem.run_pure])
 have c:List.range' 0 (([:8]:Std.Legacy.Range).size) ([:8]:Std.Legacy.Range).step=List.range 8:=by rfl
 rw[c,e];simp only[Result.andThen_ok];unfold GI;cases ((List.range 8).all fun i=>g (i*2) == h (i*2) && g (i*2+1) == h (i*2+1))<;>simp[Sem.run_pure]
theorem TM(g h:Nat->Int)(w:World):(binOp .eql 222 (.agg (BO g)) (.agg (BO h))).run Tryz.prog w = .ok (.bool (GI g h)) w:=by
 rw[run_eql_struct,zDb g h 9997];rfl
theorem zCd(v T v1 U:Value)(n lo hi y x:Nat)(f:Nat->AD)(s:AD)(w:World)(X:Bb w lo hi v n f)(Y:Cx w y x T v1 U s)(S:s.kn=8) :
 Calls Tryz.prog 161 #[v,.agg #[T,v1,U]] w fun e w'=>AG (RB n f s) e/\Below w.heap.size w w':=by
 have Hv:Hid (Bb w lo hi v n f):=X;obtain⟨m1,a,c,rfl,mc,g1⟩:=X;have Hs:Hid (Cx w y x T v1 U s):=Y;obtain⟨rfl,⟨m2,G,kc,rfl,lA,g2⟩,rfl,m3⟩:=Y;have J:Hid (s.kn=8):=S;clear g1 g2 S;go_enter Tryz.func161,Tryz.ntmps161;go_wp2_with fail;have r:=A9 w (.cells #[.int .i64 s.birth,.slice G s.kn kc,.string s.data] 75);refine(OT _ _ _ y x s _ (Hs.out.A0 r) (Or.inr J.out)).mono ?_;rintro e b ⟨rfl,u⟩;have W:Hid (CX b w.heap.size (.int .i64 s.birth) (.slice G s.kn kc) (.string s.data)):=(CX.new w _ _ _ _).A0 u;have Q:=A7 r u;have l:Hid ((Tryz.prog.info? 222).map (·.size)=some (BB s).size):=by
  show _=_;rw[BB,Ea];exact Lr
 clear r u;have H:(#[Value.int .i64 0,Value.int .i64 0,Value.int .i64 0,Value.int .i64 0,Value.int .i64 0,Value.int .i64 0,Value.int .i64 0,Value.int .i64 0,Value.int .i64 0,Value.int .i64 0,Value.int .i64 0,Value.int .i64 0,Value.int .i64 0,Value.int .i64 0,Value.int .i64 0,Value.int .i64 0]:Array Value)=BO (fun _=>0):=rfl;have A:Hid ((#[Value.int .i64 0,Value.int .i64 0,Value.int .i64 0,Value.int .i64 0,Value.int .i64 0,Value.int .i64 0,Value.int .i64 0,Value.int .i64 0,Value.int .i64 0,Value.int .i64 0,Value.int .i64 0,Value.int .i64 0,Value.int .i64 0,Value.int .i64 0,Value.int .i64 0,Value.int .i64 0]:Array Value)=BO (fun _=>0)):=H;clear H;go_wp2_with (first
  | (refine wpList_store_row rfl 222 (.tmp 5) (.tmp 10) rfl b.heap.size (BB s) rfl rfl 222 #[Value.int .i64 0,Value.int .i64 0,Value.int .i64 0,Value.int .i64 0,Value.int .i64 0,Value.int .i64 0,Value.int .i64 0,Value.int .i64 0,Value.int .i64 0,Value.int .i64 0,Value.int .i64 0,Value.int .i64 0,Value.int .i64 0,Value.int .i64 0,Value.int .i64 0,Value.int .i64 0] (heap_alloc_last _ _) l.out (by rw[BB,Ea];rfl) (L1 _) ?_;rw[World.setRow_alloc_new])
  | (refine wpList_load_row rfl 222 (.tmp 5) rfl b.heap.size rfl 222 (BB s) (0,0) _ ?hh IZ rfl l.out ?_;(exact(Below.heap_alloc _ _ _ (by simp)).trans (heap_alloc_last _ _))))
 have cA:w.heap.size<b.heap.size:=W.out.1.lt
 go_loopw [12] (fun i wr=>∃(k:Nat) (g:Nat->Int),k<=8/\i = .int .i64 k/\(∀j,j<k->Fo n f s.birth (s.ks j) (s.kb j) (g (j*2)) (g (j*2+1)))/\CX wr w.heap.size (.int .i64 s.birth) (.slice G s.kn kc) (.string s.data)/\
  wr.heap[b.heap.size]?=some (.cells (BB s) 222 (0,0))/\wr.heap[b.heap.size+1]?=some (.cells (BO g) 222 (0,0))/\Below w.heap.size w wr) (fun i _=>8 - (intOf i).toNat)
 case atStart=>
  refine⟨0,fun _=>0,Nat.zero_le _,rfl,fun j hj=>absurd hj (Nat.not_lt_zero _),(W.out.A0 (A9 _ _)).A0 (A9 _ _),?_,?_,A7 (A7 Q (A9 _ _)) (A9 _ _)⟩
  ·exact(Below.heap_alloc _ _ _ (by simp)).trans (heap_alloc_last _ _)
  ·have:=heap_alloc_last (b.alloc (.cells (BB s) 222)) (.cells #[Value.int .i64 0,Value.int .i64 0,Value.int .i64 0,Value.int .i64 0,Value.int .i64 0,Value.int .i64 0,Value.int .i64 0,Value.int .i64 0,Value.int .i64 0,Value.int .i64 0,Value.int .i64 0,Value.int .i64 0,Value.int .i64 0,Value.int .i64 0,Value.int .i64 0,Value.int .i64 0] 222);rw[World.size_alloc]at this;rw[this,A.out]
 case round=>
  obtain⟨k,g,S,rfl,p,hx,hK,hF,K⟩:=hrel;have d:Hid (∀j,j<k->Fo n f s.birth (s.ks j) (s.kb j) (g (j*2)) (g (j*2+1))):=p;have N:Hid (CX wr w.heap.size (.int .i64 s.birth) (.slice G s.kn kc) (.string s.data)):=hx;have L:Hid (wr.heap[b.heap.size]?=some (.cells (BB s) 222 (0,0))):=hK;have I:Hid (wr.heap[b.heap.size+1]?=some (.cells (BO g) 222 (0,0))):=hF;clear p hx hK hF;have F:b.heap.size+1<wr.heap.size:=(Array.getElem?_eq_some_iff.1 I.out).1;by_cases E:k<8
  ·have bA:(k:Int)<8:=(by omega);have C:∀w,(Instr.index 222 (.agg (BB s)) (.int .i64 (k:Int))).run Tryz.prog w = .ok (.agg #[.int .i64 (s.ks k),.int .i64 (s.kb k)]) w:=fun w=>by
    have e:=zDq (BA s) k E w;have e0:BA s (k*2)=s.ks k:=(by unfold BA;rw[if_pos (by have:=J.out;omega),if_pos (by omega),show k*2 / 2=k by omega]);have e1:BA s (k*2+1)=s.kb k:=(by unfold BA;rw[if_pos (by have:=J.out;omega),if_neg (by omega),show(k*2+1) / 2=k by omega]);rw[e0,e1]at e;exact e
   obtain⟨⟨x0,x1⟩,⟨x2,x3⟩,⟨x4,x5⟩⟩:=N.out;have dA:w.heap.size<wr.heap.size:=(by omega);go_wp2_with fail;have t:=A9 wr (.cells #[.int .i64 (s.ks k),.int .i64 (s.kb k)] 38);refine(zCM _ n lo hi f _ _ _ _ (Hv.out.A0 (A7 K t))).mono ?_;rintro e V ⟨⟨rs,rb,rfl,D⟩,B⟩;have P:Hid (Fo n f s.birth (s.ks k) (s.kb k) rs rb):=D;have m:=A7 t B;have q:Hid (V.heap[b.heap.size+1]?=some (.cells (BO g) 222 (0,0))):=(m.block _ F).trans I.out;have M:Hid (V.heap[b.heap.size]?=some (.cells (BB s) 222 (0,0))):=(m.block _ (by omega)).trans L.out;have O:Hid (CX V w.heap.size (.int .i64 s.birth) (.slice G s.kn kc) (.string s.data)):=N.out.A0 m;have R:=A7 K m;clear D B t m x0 x1 x2 x3 x4 x5 C I L N K;obtain⟨y0,y1⟩:=B2 (i:=k*2) q.out (I9 g (by omega));obtain⟨y2,y3⟩:=B2 (i:=k*2+1) q.out (I9 g (by omega));go_wp2;go_roundw
   case rel=>
    refine⟨k+1,fun j=>if j=k*2 then rs else if j=k*2+1 then rb else g j,by omega,by go_num,fun j hj=>?_,(O.out.other _ (by omega)).other _ (by omega),?_,?_,(R.setCell (by show _<=b.heap.size+1;omega) _).setCell (by show _<=b.heap.size+1;omega) _⟩
    ·by_cases e:j=k
     ·subst e;simp only[if_true];rw[if_neg (by omega)];exact P.out
     ·simp only;rw[if_neg (by omega),if_neg (by omega),if_neg (by omega),if_neg (by omega)];exact d.out j (by omega)
    ·rw[Below.heap_setCell _ _ _ _ (by show b.heap.size≠b.heap.size+1;omega),Below.heap_setCell _ _ _ _ (by show b.heap.size≠b.heap.size+1;omega)];exact M.out
    ·have:=ZQ (o:=k*2+1) (.int .i64 rb) (ZQ (o:=k*2) (.int .i64 rs) q.out);rw[zk g k E]at this;exact this
   case measure=>simp[intOf];omega
  ·obtain rfl:k=8:=(by omega);have Z:∀w,(binOp .eql 222 (.agg (BO g)) (.agg (BB s))).run Tryz.prog w = .ok (.bool (GI g (BA s))) w:=fun w=>TM g (BA s) w
   have z:Hid ((Tryz.prog.info? 222).map (·.size)=some (BO g).size):=by
    show _=_;rw[Ea];exact Lr
   go_wp2_with (first
    | (refine wpList_load_row rfl 222 (.tmp 6) rfl (b.heap.size+1) rfl 222 (BO g) (0,0) _ I.out IZ rfl z.out ?_)
    | (refine wpList_load_row rfl 222 (.tmp 5) rfl b.heap.size rfl 222 (BB s) (0,0) _ L.out IZ rfl l.out ?_))
   go_ret;refine⟨⟨_,rfl,?_⟩,K⟩;rw[Ux];have e0:∀i,i<8->BA s (i*2)=s.ks i/\BA s (i*2+1)=s.kb i:=fun i hi=>by
    have:=J.out;refine⟨?_,?_⟩
    ·unfold BA;rw[if_pos (by omega),if_pos (by omega),show i*2 / 2=i by omega]
    ·unfold BA;rw[if_pos (by omega),if_neg (by omega),show(i*2+1) / 2=i by omega]
   constructor
   ·intro h i hi;have:=d.out i hi;rw[(h i hi).1,(h i hi).2,(e0 i hi).1,(e0 i hi).2]at this;exact this
   ·intro h i hi;rw[(e0 i hi).1,(e0 i hi).2];exact(d.out i hi).uniq (h i hi)
def LF(n:Nat)(f:Nat->AD)(s:AD):Prop:=An s\/FR s\/(IW s/\RB n f s)
def M1(p:A8)(i:Nat):Prop:=¬Do p.n p.s (p.h i) 0 0/\¬Has i p.h (p.h i)
def zII(p:A8):Prop:=p.n<=200/\p.hn<=p.n/\(∀i,i<p.n->LF p.n p.s (p.s i))/\∀i,i<p.hn->M1 p i
theorem zCn(v L v1 M:Value)(n lo hi i g:Nat)(f:Nat->AD)(s:AD)(w:World)(N:Bb w lo hi v n f)(O:Cx w i g L v1 M s) :
 Calls Tryz.prog 119 #[v,.agg #[L,v1,M]] w fun e w'=>AG (LF n f s) e/\Below w.heap.size w w':=by
 have Q:Hid (Bb w lo hi v n f):=N;obtain⟨X,a,c,rfl,mc,R⟩:=N;have H:Hid (Cx w i g L v1 M s):=O;obtain⟨rfl,⟨Y,I,kc,rfl,T,S⟩,rfl,Z⟩:=O;clear R S;go_enter Tryz.func119,Tryz.ntmps119;go_wp2_with fail;have o:=A9 w (.cells #[.int .i64 s.birth,.slice I s.kn kc,.string s.data] 75);refine(OS _ _ _ i g s _ (H.out.A0 o)).mono ?_;rintro e U ⟨⟨t,rfl,d⟩,p⟩;have J:Hid (CX U w.heap.size (.int .i64 s.birth) (.slice I s.kn kc) (.string s.data)):=(CX.new w _ _ _ _).A0 p;have k:=A7 o p;clear o p;by_cases b:An s
 ·obtain rfl:t=true:=d.2 b;have E:Hid (An s):=b;clear d b;go_wp2;go_ret;exact⟨AG.yes (Or.inl E.out),k⟩
 ·obtain rfl:t=false:=Bc d b;have E:Hid (¬An s):=b;clear d b;obtain⟨⟨y,z⟩,⟨A,B⟩,⟨C,D⟩⟩:=J.out;go_wp2_with fail;refine(YX _ _ _ i g s _ (H.out.A0 k)).mono ?_;rintro e V ⟨⟨t,rfl,d⟩,q⟩;have m:Hid (CX V w.heap.size (.int .i64 s.birth) (.slice I s.kn kc) (.string s.data)):=J.out.A0 q;have l:=A7 k q;clear q k y z A B C D J;by_cases b:FR s
  ·obtain rfl:t=true:=d.2 b;have G:Hid (FR s):=b;clear d b;go_wp2;go_ret;exact⟨AG.yes (Or.inr (Or.inl G.out)),l⟩
  ·obtain rfl:t=false:=Bc d b;have G:Hid (¬FR s):=b;clear d b;obtain⟨⟨y,z⟩,⟨A,B⟩,⟨C,D⟩⟩:=m.out;go_wp2_with fail;refine(zAz _ _ _ i g s _ (H.out.A0 l)).mono ?_;rintro e W ⟨⟨t,rfl,d⟩,r⟩;have u:Hid (CX W w.heap.size (.int .i64 s.birth) (.slice I s.kn kc) (.string s.data)):=m.out.A0 r;have j:=A7 l r;clear r l y z A B C D m;by_cases b:IW s
   ·obtain rfl:t=true:=d.2 b;have F:Hid (IW s):=b;clear d b;obtain⟨⟨y,z⟩,⟨A,B⟩,⟨C,D⟩⟩:=u.out;go_wp2_with fail;refine(zCd _ _ _ _ n lo hi i g f s _ (Q.out.A0 j) (H.out.A0 j) F.out.2.1).mono ?_;rintro e w4 ⟨⟨t,rfl,d⟩,x⟩;have P:Hid (t=true↔RB n f s):=d;have K:=A7 j x;clear x j y z A B C D u d;go_wp2;go_ret;refine⟨⟨t,rfl,P.out.trans ⟨fun h=>Or.inr (Or.inr ⟨F.out,h⟩),fun h=>?_⟩⟩,K⟩;rcases h with h | h | h
    ·exact absurd h E.out
    ·exact absurd h G.out
    ·exact h.2
   ·obtain rfl:t=false:=Bc d b;have F:Hid (¬IW s):=b;clear d b;go_wp2;go_ret;refine⟨AG.no fun h=>?_,j⟩;rcases h with h | h | h
    ·exact E.out h
    ·exact G.out h
    ·exact F.out h.1
theorem zCa(I v1:Value)(lo hi:Nat)(p:A8)(w:World)(R:EE w lo hi I v1 p) :
 Calls Tryz.prog 120 #[.agg #[I,v1]] w fun e w'=>AG (∀i,i<p.hn->M1 p i) e/\Below w.heap.size w w':=by
 have P:Hid (EE w lo hi I v1 p):=R;obtain⟨⟨m1,a,c,rfl,mc,X⟩,⟨m2,G,c',rfl,fA,Y⟩⟩:=R;unfold maxLen at m1 m2;clear X Y;go_enter Tryz.func120,Tryz.ntmps120;go_wp2
 go_loopw [8] (fun i wr=>∃k:Nat,k<=p.hn/\i = .int .i64 k/\(∀j,j<k->M1 p j)/\Ad wr w.heap.size (.slice a p.n c) (.slice G p.hn c')/\Below w.heap.size w wr) (fun i _=>p.hn - (intOf i).toNat)
 case atStart=>exact⟨0,Nat.zero_le _,rfl,fun j hj=>absurd hj (Nat.not_lt_zero _),Ad.new _ _ _ _,A9 _ _⟩
 case round=>
  obtain⟨k,hk,rfl,m,T,B⟩:=hrel;have l:Hid (∀j,j<k->M1 p j):=m;have F:Hid (Ad wr w.heap.size (.slice a p.n c) (.slice G p.hn c')):=T;clear m T;obtain⟨⟨J,K⟩,⟨L,M⟩⟩:=F.out;by_cases g:k<p.hn
  ·have S:(k:Int)<(p.hn:Int):=(by omega);have o:=P.out.2.A0 B;have u:Hid (ED wr lo hi (.slice G p.hn c') p.hn p.h):=o;obtain⟨_,a2,Q,z,_,A⟩:=o;simp only[Value.slice.injEq,true_and]at z;obtain⟨rfl,rfl⟩:=z;obtain⟨b,off,rfl,_,_,U⟩:=A (by omega);have aA:=U k g;clear U A;go_wp2_with fail;refine(OK _ p.n lo hi p.s _ _ (P.out.1.A0 B)).mono ?_;rintro e V ⟨⟨ps,E,rfl,x⟩,d⟩;have v:Hid (Do p.n p.s (p.h k) ps E):=x;have O:Hid (Ad V w.heap.size (.slice a p.n c) (.slice (some ⟨b,off,none⟩) p.hn c')):=F.out.A0 d;have N:Hid (ED V lo hi (.slice (some ⟨b,off,none⟩) k k) k p.h):=(u.out.A0 d).take (by omega) (by omega);have q:=A7 B d;clear x d J K L M F;by_cases D:ps=0/\E=0
   ·obtain⟨rfl,rfl⟩:=D;go_wp2;go_ret;exact⟨AG.no fun h=>(h k g).1 v.out,q⟩
   ·have W:Hid (¬Do p.n p.s (p.h k) 0 0):=fun h=>by
     obtain⟨e0,H⟩:=v.out.uniq h;exact D ⟨e0,H⟩
    have e0:(ps == 0)=false\/(ps == 0)=true/\(E == 0)=false:=by
     by_cases h:ps=0
     ·right;refine⟨by simp[h],?_⟩;have:E≠0:=fun Z=>D ⟨h,Z⟩
      simp[this]
     ·left;simp[h]
    clear D;obtain⟨⟨J,K⟩,⟨L,M⟩⟩:=O.out;have cA:k<=c':=(by omega);by_cases C:Has k p.h (p.h k)
    ·have r:Hid (Has k p.h (p.h k)):=C;clear C;rcases e0 with e0 | ⟨e0,H⟩
     all_goals
      go_wp2_with fail;refine(Rn _ k lo hi p.h _ _ N.out).mono ?_;rintro e w2 ⟨⟨t,rfl,y⟩,rfl⟩;obtain rfl:t=true:=y.2 r.out;clear y;go_wp2;go_ret;exact⟨AG.no fun h=>(h k g).2 r.out,q⟩
    ·have r:Hid (¬Has k p.h (p.h k)):=C;clear C;rcases e0 with e0 | ⟨e0,H⟩
     all_goals
      go_wp2_with fail;refine(Rn _ k lo hi p.h _ _ N.out).mono ?_;rintro e w2 ⟨⟨t,rfl,y⟩,rfl⟩;obtain rfl:t=false:=Bc y r.out;clear y J K L M;go_wp2;go_roundw
      case rel=>exact⟨k+1,by omega,by go_num,Bf g l.out ⟨W.out,r.out⟩,O.out,q⟩
      case measure=>simp[intOf];omega
  ·obtain rfl:k=p.hn:=(by omega);go_wp2;go_ret;exact⟨AG.yes l.out,B⟩
theorem Zz:∀(m n:Nat) (h:Nat->Nat),(∀i,i<m->h i<n)->(∀i j,i<j->j<m->h i≠h j)->m<=n
 | 0,_,_,_,_=>Nat.zero_le _
 | m+1,0,h,hlt,_=>absurd (hlt 0 (by omega)) (Nat.not_lt_zero _)
 | m+1,n+1,h,hlt,hne=>by
  have key:=Zz m n (fun i=>if h i<h m then h i else h i - 1) (fun i hi=>by
   have a:=hlt i (by omega);have b:=hne i m hi (by omega);have c:=hlt m (by omega);show(if h i<h m then h i else h i - 1)<n;split<;>omega) (fun i j d e=>by
   have a:=hne i j d (by omega);have b:=hne i m (by omega) (by omega);have c:=hne j m (by omega) (by omega);show(if h i<h m then h i else h i - 1)≠(if h j<h m then h j else h j - 1);split<;>split<;>omega)
  omega
variable{s:AD}
theorem YR(h:An s):s.birth=0:=h.1
theorem zGC(h:LF n f s)(a:¬An s):1<=s.birth:=by
 rcases h with h | h | h
 ·exact absurd h a
 ·exact h.1.1
 ·exact h.1.1.1
variable{p:A8}
theorem YP(h:An s\/CD p s)(a:¬An s):1<=s.birth:=by
 rcases h with h | h
 ·exact absurd h a
 ·exact h.1.1
theorem TZ{b ks kb:Int}(a:∀i,i<p.n->¬An (p.s i)->1<=(p.s i).birth):Fo p.n p.s b ks kb ks kb↔NC p b ks kb:=by
 constructor
 ·rintro⟨ps,q,o,h⟩;rcases h with⟨h,rfl,rfl⟩ | ⟨h,rfl,rfl⟩
  ·exact Or.inl ⟨rfl,rfl⟩
  ·rcases o with⟨d,e,g,_,j⟩ | ⟨d,rfl,rfl⟩
   ·right;have k:=a ks.toNat (by omega) g;rw[<-j]at k;refine⟨⟨k,d,e,j.symm⟩,?_⟩;by_cases c:b<kb
    ·exact absurd (Or.inr c) h
    ·omega
   ·exact absurd (Or.inl ⟨rfl,rfl⟩) h
 ·rintro(⟨rfl,rfl⟩ | ⟨⟨d,e,g,l⟩,j⟩)
  ·by_cases c:0<p.n/\¬An (p.s 0)
   ·refine⟨0,(p.s 0).birth,Or.inl ⟨by omega,by omega,?_,rfl,rfl⟩,Or.inl ⟨Or.inl ⟨rfl,rfl⟩,rfl,rfl⟩⟩;exact c.2
   ·refine⟨0,0,Or.inr ⟨fun h=>c ⟨by omega,h.2.2⟩,rfl,rfl⟩,Or.inl ⟨Or.inl ⟨rfl,rfl⟩,rfl,rfl⟩⟩
  ·refine⟨ks,kb,Or.inl ⟨e,g,fun m=>?_,rfl,l.symm⟩,Or.inr ⟨fun h=>?_,rfl,rfl⟩⟩
   ·have:=YR m;omega
   ·rcases h with h | h
    ·have:=h.2;omega
    ·omega
theorem MU(p:A8):zII p↔Ag p:=by
 constructor
 ·rintro⟨q,z,o,m⟩;have k:∀i,i<p.n->¬An (p.s i)->1<=(p.s i).birth:=fun i hi=>zGC (o i hi)
  refine⟨q,fun i hi=>?_,fun i hi=>?_⟩
  ·rcases o i hi with h | h | h
   ·exact Or.inl h
   ·exact Or.inr ⟨h.1,Or.inl h.2⟩
   ·refine Or.inr ⟨h.1.1,Or.inr ⟨h.1.2.1,h.1.2.2,fun j t=>?_⟩⟩;exact(TZ k).1 (h.2 j (by have:=h.1.2.1;omega))
  ·obtain⟨u,v⟩:=m i hi;have l:0<=p.h i/\p.h i<p.n/\¬An (p.s (p.h i).toNat):=by
    by_cases l:0<=p.h i/\p.h i<p.n/\¬An (p.s (p.h i).toNat)
    ·exact l
    ·exact absurd (Or.inr ⟨l,rfl,rfl⟩) u
   exact⟨l.1,l.2.1,l.2.2,v⟩
 ·rintro⟨q,o,m⟩;have k:∀i,i<p.n->¬An (p.s i)->1<=(p.s i).birth:=fun i hi=>YP (o i hi)
  refine⟨q,?_,fun i hi=>?_,fun i hi=>?_⟩
  ·refine Zz p.hn p.n (fun i=>(p.h i).toNat) (fun i hi=>?_) (fun i j r t=>?_)
   ·obtain⟨a,b,_,_⟩:=m i hi;show(p.h i).toNat<p.n;omega
   ·obtain⟨a,b,_,d⟩:=m j t;obtain⟨w,b',_,_⟩:=m i (by omega);show(p.h i).toNat≠(p.h j).toNat;intro e;exact d ⟨i,r,by omega⟩
  ·rcases o i hi with h | h
   ·exact Or.inl h
   ·rcases h.2 with g | g
    ·exact Or.inr (Or.inl ⟨h.1,g⟩)
    ·exact Or.inr (Or.inr ⟨⟨h.1,g.1,g.2.1⟩,fun j t=>(TZ k).2 (g.2.2 j (by omega))⟩)
  ·obtain⟨a,b,c,d⟩:=m i hi;refine⟨fun l=>?_,d⟩;rcases l with⟨_,_,_,x,y⟩ | ⟨l,_⟩
   ·have:=k (p.h i).toNat (by omega) c;omega
   ·exact l ⟨a,b,c⟩
theorem Zb(C v1:Value)(lo hi:Nat)(p:A8)(w:World)(E:EE w lo hi C v1 p) :
 Calls Tryz.prog 73 #[.agg #[C,v1]] w fun e w'=>AG (Ag p) e/\Below w.heap.size w w':=by
 have B:Hid (EE w lo hi C v1 p):=E;obtain⟨⟨U,a,c,rfl,mc,P⟩,⟨V,A,c',rfl,W,Q⟩⟩:=E;unfold maxLen at U V;clear P Q;have q:Hid (Below w.heap.size w (w.alloc (.cells #[.slice a p.n c,.slice A p.hn c'] 26))):=A9 _ _;by_cases hn:(200:Int)<p.n
 ·have H:Hid (¬Ag p):=fun h=>by have:=h.1;omega
  go_enter Tryz.func73,Tryz.ntmps73;go_wp2;go_ret;exact⟨AG.no H.out,q.out⟩
 by_cases S:(p.n:Int)<p.hn
 ·have H:Hid (¬Ag p):=fun h=>by have:=((MU p).2 h).2.1;omega
  go_enter Tryz.func73,Tryz.ntmps73;go_wp2;go_ret;exact⟨AG.no H.out,q.out⟩
 ·go_enter Tryz.func73,Tryz.ntmps73;go_wp2
  go_loopw [21] (fun i wr=>∃k:Nat,k<=p.n/\i = .int .i64 k/\(∀j,j<k->LF p.n p.s (p.s j))/\Ad wr w.heap.size (.slice a p.n c) (.slice A p.hn c')/\Below w.heap.size w wr) (fun i _=>p.n - (intOf i).toNat)
  case atStart=>exact⟨0,Nat.zero_le _,rfl,fun j R=>absurd R (Nat.not_lt_zero _),Ad.new _ _ _ _,q.out⟩
  case round=>
   obtain⟨k,Z,rfl,o,G,v⟩:=hrel;have m:Hid (∀j,j<k->LF p.n p.s (p.s j)):=o;have z:Hid (Ad wr w.heap.size (.slice a p.n c) (.slice A p.hn c')):=G;clear o G;obtain⟨⟨K,L⟩,⟨M,N⟩⟩:=z.out;have T:w.heap.size<wr.heap.size:=z.out.1.lt;by_cases u:k<p.n
   ·have F:(k:Int)<(p.n:Int):=(by omega);obtain⟨b,off,I,kc,rfl,hs⟩:=(B.out.1.A0 v).cells u;have D:Hid (Jw wr b (off+k*3) lo hi I kc (p.s k)):=hs;obtain⟨X,q1,Y,_⟩:=hs;go_wp2_with fail;have g:=A9 wr (.cells #[.int .i64 (p.s k).birth,.slice I (p.s k).kn kc,.string (p.s k).data] 75);refine(zCn _ _ _ _ p.n lo hi lo hi p.s (p.s k) _ (B.out.1.A0 (A7 v g)) (D.out.slot.A0 g)).mono ?_;rintro e J ⟨⟨t,rfl,x⟩,d⟩;have r:=A7 g d;have O:Hid (Ad J w.heap.size (.slice (some ⟨b,off,none⟩) p.n c) (.slice A p.hn c')):=z.out.A0 r;have l:=A7 v r;have y:Hid (t=true↔LF p.n p.s (p.s k)):=x;clear g d r x X q1 Y K L M N z D;cases t
    ·go_wp2;go_ret;refine⟨AG.no fun h=>?_,l⟩;have:=((MU p).2 h).2.2.1 k u;exact absurd (y.out.2 this) (by simp)
    ·go_wp2;go_roundw
     case rel=>exact⟨k+1,by omega,by go_num,Bf u m.out (by simpa using y.out),O.out,l⟩
     case measure=>simp[intOf];omega
   ·obtain rfl:k=p.n:=(by omega);go_wp2_with fail;refine(zCa _ _ lo hi p _ (B.out.A0 v)).mono ?_;rintro e J ⟨⟨t,rfl,x⟩,d⟩;have y:Hid (t=true↔∀i,i<p.hn->M1 p i):=x;have l:=A7 v d;clear x d K L M N;go_wp2;go_ret;refine⟨⟨t,rfl,y.out.trans ⟨fun h=>?_,fun h=>?_⟩⟩,l⟩
    ·exact(MU p).1 ⟨by omega,by omega,m.out,h⟩
    ·exact((MU p).2 h).2.2.2
theorem Do.some(n:Nat)(f:Nat->AD)(x:Int):∃ps a,Do n f x ps a:=by
 by_cases h:0<=x/\x<n/\¬An (f x.toNat)
 ·exact⟨x,(f x.toNat).birth,Or.inl ⟨h.1,h.2.1,h.2.2,rfl,rfl⟩⟩
 ·exact⟨0,0,Or.inr ⟨h,rfl,rfl⟩⟩
theorem R8(v:Value)(n lo hi:Nat)(f:Nat->AD)(xs xb:Int)(w:World)(z:Bb w lo hi v n f) :
 Calls Tryz.prog 166 #[v,.agg #[.int .i64 xs,.int .i64 xb]] w fun e w'=>AG (¬JX xs xb 0 0/\Do n f xs xs xb) e/\Below w.heap.size w w':=by
 have x:Hid (Bb w lo hi v n f):=z;obtain⟨I,a,c,rfl,J,D⟩:=z;clear D;have k:=A9 w (.cells #[.int .i64 xs,.int .i64 xb] 38);have o:Hid (Ad (w.alloc (.cells #[.int .i64 xs,.int .i64 xb] 38)) w.heap.size (.int .i64 xs) (.int .i64 xb)):=Ad.new _ _ _ _;by_cases q:xs=0/\xb=0
 ·obtain⟨rfl,rfl⟩:=q;go_enter Tryz.func166,Tryz.ntmps166;go_wp2_with fail
  go_quiet (fail)
  go_wp2;go_ret;exact⟨AG.no fun h=>h.1 ⟨rfl,rfl⟩,K7 k _⟩
 ·have B:Hid (¬JX xs xb 0 0):=q;have e0:(xs == 0)=false\/(xs == 0)=true/\(xb == 0)=false:=by
   by_cases h:xs=0
   ·right;refine⟨by simp[h],?_⟩;have:xb≠0:=fun s=>q ⟨h,s⟩
    simp[this]
   ·left;simp[h]
  clear q;obtain⟨d,i,y⟩:=Do.some n f xs;have m:Hid (Do n f xs d i):=y;clear y;by_cases p:xs=d/\xb=i
  ·obtain⟨rfl,rfl⟩:=p;rcases e0 with e0 | ⟨e0,C⟩
   all_goals
    go_enter Tryz.func166,Tryz.ntmps166;go_wp2_with fail;go_region_held3 (fun w'=>w'.cell? ⟨w.heap.size,0,none⟩=some (.int .i64 xs)/\w'.cell? ⟨w.heap.size,1,none⟩=some (.int .i64 xb)) (go_keep)
     (first | (go_at_call 162;refine(OK _ n lo hi f _ _ ?_).mono ?_;(exact(x.out.A0 k).A0 ((Below.refl _ _).drew));rintro e G ⟨⟨ps,E,rfl,l⟩,g⟩;obtain⟨rfl,rfl⟩:=m.out.uniq l;clear l;have b:=Cp g;have t:=(o.out.A0 b).1.1;have u:=(o.out.A0 b).2.1))
    have j:=A7 k b;clear g b t u;go_wp2;go_ret;exact⟨AG.yes ⟨B.out,m.out⟩,j⟩
  ·have A:Hid (¬(xs=d/\xb=i)):=p;have r:(xs == d)=false\/(xs == d)=true/\(xb == i)=false:=by
    by_cases h:xs=d
    ·right;refine⟨by simp[h],?_⟩;have:xb≠i:=fun s=>p ⟨h,s⟩
     simp[this]
    ·left;simp[h]
   clear p;rcases e0 with e0 | ⟨e0,C⟩
   all_goals
    rcases r with r | ⟨r,H⟩
    all_goals
     go_enter Tryz.func166,Tryz.ntmps166;go_wp2_with fail;go_region_held3 (fun w'=>w'.cell? ⟨w.heap.size,0,none⟩=some (.int .i64 xs)/\w'.cell? ⟨w.heap.size,1,none⟩=some (.int .i64 xb)) (go_keep)
      (first | (go_at_call 162;refine(OK _ n lo hi f _ _ ?_).mono ?_;(exact(x.out.A0 k).A0 ((Below.refl _ _).drew));rintro e G ⟨⟨ps,E,rfl,l⟩,g⟩;obtain⟨rfl,rfl⟩:=m.out.uniq l;clear l;have b:=Cp g;have t:=(o.out.A0 b).1.1;have u:=(o.out.A0 b).2.1))
     have j:=A7 k b;clear g b t u;go_wp2;go_ret;refine⟨AG.no fun h=>?_,j⟩;obtain⟨F,q1⟩:=h.2.uniq m.out;exact A.out ⟨F,q1⟩
variable{xs xb:Int}
theorem R9(k:Ag p):(¬JX xs xb 0 0/\Do p.n p.s xs xs xb)↔BM p xs xb:=by
 constructor
 ·rintro⟨h,g | ⟨_,i,j⟩⟩
  ·obtain⟨a,b,c,_,e⟩:=g;have:=YP (k.2.1 xs.toNat (by omega)) c;exact⟨by omega,a,b,e.symm⟩
  ·exact absurd ⟨i,j⟩ h
 ·rintro⟨a,b,c,d⟩;refine⟨fun h=>by have:=h.2;omega,Or.inl ⟨b,c,fun l=>?_,rfl,d.symm⟩⟩;have:=YR l;omega
def Nil(xs xb:Int):Prop:=xs=0/\xb=0
instance (xs xb:Int):Decidable (Nil xs xb):=inferInstanceAs (Decidable (xs=0/\xb=0))
def one(xs xb:Int):List (Int×Int):=if Nil xs xb then [] else [(xs,xb)]
def kidsUp(ks kb:Nat->Int):Nat->List (Int×Int)
 | 0=>[]
 | k+1=>kidsUp ks kb k ++ one (ks k) (kb k)
def AK(s:AD)(i:Nat):Int:=BA s (i*2)
def AW(s:AD)(i:Nat):Int:=BA s (i*2+1)
def Gp(s:AD):List (Int×Int):=kidsUp (AK s) (AW s) 8
def DV(p:A8)(xs xb:Int):List (Int×Int):=if Nil xs xb then [] else(xs,xb) :: Gp (p.s xs.toNat)
def Ci(p:A8)(s:AD):Nat->List (Int×Int)
 | 0=>[]
 | k+1=>Ci p s k ++ DV p (AK s k) (AW s k)
def AF(p:A8)(rs rb:Int):List (Int×Int):=if Nil rs rb then [] else(rs,rb) :: Ci p (p.s rs.toNat) 8
variable{i:Nat}
theorem Fh(h:s.kn=8)(hi:i<8):AK s i=s.ks i:=by
 unfold AK BA;rw[show i*2 / 2=i by omega,if_pos (by omega),if_pos (by omega)]
theorem Fm(h:s.kn=8)(hi:i<8):AW s i=s.kb i:=by
 unfold AW BA;rw[show(i*2+1) / 2=i by omega,if_pos (by omega),if_neg (by omega)]
theorem TY(h:s.kn=0)(i:Nat):AK s i=0:=by
 unfold AK BA;rw[if_neg (by omega)]
theorem TX(h:s.kn=0)(i:Nat):AW s i=0:=by
 unfold AW BA;rw[if_neg (by omega)]
variable{x:Int×Int}
theorem zHi:x∈one xs xb↔x=(xs,xb)/\¬Nil xs xb:=by
 unfold one;by_cases h:Nil xs xb
 ·rw[if_pos h];simp[h]
 ·rw[if_neg h];simp[h]
theorem Md{ks kb:Nat->Int}{x:Int×Int}:∀{k:Nat},x∈kidsUp ks kb k↔∃i,i<k/\x=(ks i,kb i)/\¬Nil (ks i) (kb i)
 | 0=>by simp[kidsUp]
 | k+1=>by
  rw[kidsUp,List.mem_append,Md,zHi];constructor
  ·rintro(⟨i,hi,h⟩ | h)
   ·exact⟨i,by omega,h⟩
   ·exact⟨k,by omega,h⟩
  ·rintro⟨i,hi,h⟩;by_cases e:i=k
   ·subst e;exact Or.inr h
   ·exact Or.inl ⟨i,by omega,h⟩
theorem Kr:x∈DV p xs xb↔¬Nil xs xb/\(x=(xs,xb)\/x∈Gp (p.s xs.toNat)):=by
 unfold DV;by_cases h:Nil xs xb
 ·rw[if_pos h];simp[h]
 ·rw[if_neg h];simp[h]
theorem L4{p:A8}{s:AD}{x:Int×Int}:∀{k:Nat},x∈Ci p s k↔∃i,i<k/\x∈DV p (AK s i) (AW s i)
 | 0=>by simp[Ci]
 | k+1=>by
  rw[Ci,List.mem_append,L4];constructor
  ·rintro(⟨i,hi,h⟩ | h)
   ·exact⟨i,by omega,h⟩
   ·exact⟨k,by omega,h⟩
  ·rintro⟨i,hi,h⟩;by_cases e:i=k
   ·subst e;exact Or.inr h
   ·exact Or.inl ⟨i,by omega,h⟩
theorem J9(b a:Nat->Int):∀k,(kidsUp b a k).length<=k
 | 0=>Nat.le_refl _
 | k+1=>by
  have:=J9 b a k;unfold kidsUp one;split<;>simp<;>omega
theorem Us(p:A8)(xs xb:Int):(DV p xs xb).length<=9:=by
 unfold DV;have:=J9 (AK (p.s xs.toNat)) (AW (p.s xs.toNat)) 8;split
 ·simp
 ·show(Gp _).length+1<=9;unfold Gp;omega
theorem OR(p:A8)(s:AD):∀k,(Ci p s k).length<=9*k
 | 0=>Nat.le_refl _
 | k+1=>by
  have:=OR p s k;have:=Us p (AK s k) (AW s k);unfold Ci;rw[List.length_append];omega
theorem De(p:A8)(rs rb:Int):(AF p rs rb).length<=73:=by
 unfold AF;have:=OR p (p.s rs.toNat) 8;split
 ·simp
 ·show(Ci _ _ _).length+1<=73;omega
def Lo(p:A8)(xs xb:Int):Prop:=BM p xs xb/\0<(p.s xs.toNat).kn/\¬Has p.hn p.h xs
def Lp(p:A8)(xs xb:Int):Prop:=BM p xs xb/\(p.s xs.toNat).kn=0/\¬Has p.hn p.h xs
def qq(p:A8)(s:AD):Prop:=(∀i,i<8->Nil (AK s i) (AW s i)\/Lp p (AK s i) (AW s i))/\∃i,i<8/\¬Nil (AK s i) (AW s i)
def KS(p:A8)(s:AD)(i:Nat):Prop:=Nil (AK s i) (AW s i)\/(Lo p (AK s i) (AW s i)/\qq p (p.s (AK s i).toNat))
def E6(l:List (Int×Int)):List Int:=l.map Prod.fst
def qu(p:A8)(s:AD):Prop:=(∀i,i<8->KS p s i)/\∃i,i<8/\¬Nil (AK s i) (AW s i)
def As(p:A8)(rs rb:Int):Prop:=Nil rs rb\/(Lo p rs rb/\qu p (p.s rs.toNat)/\(E6 (AF p rs rb)).Nodup)
def BN(p:A8)(rs rb:Int):Prop:=Ag p/\As p rs rb
def NO(p:A8)(s:AD):Prop:=(∃i,i<8/\¬Nil (AK s i) (AW s i))/\∀i,i<8->Nil (AK s i) (AW s i)\/FR (p.s (AK s i).toNat)
def NN(p:A8)(s:AD):Prop:=(∃i,i<8/\¬Nil (AK s i) (AW s i))/\∀i,i<8->Nil (AK s i) (AW s i)\/NO p (p.s (AK s i).toNat)
def S9(p:A8)(l:List (Int×Int)):Prop:=l.Nodup/\∀x,x∈l->¬Has p.hn p.h x.1
def Px(p:A8)(rs rb:Int):Prop:=Nil rs rb\/(BM p rs rb/\NN p (p.s rs.toNat)/\S9 p (AF p rs rb))
theorem F5(b:Ag p)(h:BM p xs xb):CD p (p.s xs.toNat):=by
 obtain⟨c,d,e,g⟩:=h;rcases b.2.1 xs.toNat (by omega)with a | a
 ·have:=a.1;omega
 ·exact a
theorem Kf(h:CD p s):s.kn=0\/s.kn=8:=by
 rcases h.2 with h | h
 ·exact Or.inl h.1
 ·exact Or.inr h.1
theorem Qq(a:Ag p)(h:BM p xs xb):(p.s xs.toNat).kn=0\/(p.s xs.toNat).kn=8:=Kf (F5 a h)
theorem J8(h:CD p s)(hi:i<8)(hn:¬Nil (AK s i) (AW s i)):BM p (AK s i) (AW s i)/\AW s i<=s.birth:=by
 rcases h.2 with a | a
 ·exact absurd ⟨TY a.1 i,TX a.1 i⟩ hn
 ·rw[Fh a.1 hi,Fm a.1 hi]at hn ⊢;rcases a.2.2 i (by omega)with b | b
  ·exact absurd b hn
  ·exact b
theorem zFk(c:Ag p)(h:BM p xs xb):FR (p.s xs.toNat)↔(p.s xs.toNat).kn=0:=by
 have b:=F5 c h;constructor
 ·exact fun h=>h.2.1
 ·intro d;rcases b.2 with a | a
  ·exact⟨b.1,a⟩
  ·omega
theorem Uc(h:s.kn=0\/s.kn=8)(a:∃i,i<8/\¬Nil (AK s i) (AW s i)):s.kn=8:=by
 rcases h with h | h
 ·obtain⟨i,_,hi⟩:=a;exact absurd ⟨TY h i,TX h i⟩ hi
 ·exact h
theorem Ou(l:Ag p)(h:BM p rs rb):∀x,x∈AF p rs rb->BM p x.1 x.2/\x.2<=rb:=by
 intro x a;unfold AF at a;split at a
 ·simp at a
 ·rw[List.mem_cons,L4]at a;rcases a with rfl | ⟨i,hi,a⟩
  ·exact⟨h,by simp⟩
  ·have m:=F5 l h;have d:(p.s rs.toNat).birth=rb:=h.2.2.2;obtain⟨hn,a⟩:=Kr.1 a;have b:=J8 m hi hn;rcases a with rfl | a
   ·exact⟨b.1,by rw[<-d];exact b.2⟩
   ·obtain⟨j,n,rfl,k⟩:=Md.1 a;have g:=F5 l b.1;have c:=J8 g n k;have e:(p.s (AK (p.s rs.toNat) i).toNat).birth=AW (p.s rs.toNat) i:=b.1.2.2.2;have:=b.2;have:=c.2;exact⟨c.1,by show AW _ j<=rb;omega⟩
theorem Qo{l:List (Int×Int)}(h:∀x,x∈l->BM p x.1 x.2):(E6 l).Nodup↔l.Nodup:=by
 unfold E6 List.Nodup;rw[List.pairwise_map];constructor
 ·exact fun g=>g.imp (fun c e=>c (by rw[e]))
 ·intro g;refine List.Pairwise.imp_of_mem ?_ g;intro a b j k c e;apply c;have d:=(h a j).2.2.2;have i:=(h b k).2.2.2;rw[e]at d;obtain⟨m,n⟩:=a;obtain⟨o,q⟩:=b;simp only[Prod.mk.injEq];exact⟨e,by simp only at d i e;rw[<-d,<-i]⟩
theorem QC(g:Ag p):Px p rs rb↔As p rs rb:=by
 by_cases k:Nil rs rb
 ·exact⟨fun _=>Or.inl k,fun _=>Or.inl k⟩
 have e:(rs,rb)∈AF p rs rb:=by unfold AF;rw[if_neg k];simp
 have n:∀i,i<8->¬Nil (AK (p.s rs.toNat) i) (AW (p.s rs.toNat) i)->(AK (p.s rs.toNat) i,AW (p.s rs.toNat) i)∈AF p rs rb:=fun i hi hn=>by
  unfold AF;rw[if_neg k,List.mem_cons,L4];exact Or.inr ⟨i,hi,Kr.2 ⟨hn,Or.inl rfl⟩⟩
 have o:∀i,i<8->¬Nil (AK (p.s rs.toNat) i) (AW (p.s rs.toNat) i)->∀x,x∈Gp (p.s (AK (p.s rs.toNat) i).toNat)->x∈AF p rs rb:=fun i hi hn x a=>by
  unfold AF;rw[if_neg k,List.mem_cons,L4];exact Or.inr ⟨i,hi,Kr.2 ⟨hn,Or.inr a⟩⟩
 constructor
 ·rintro(h | ⟨c,⟨r,F⟩,q⟩)
  ·exact Or.inl h
  ·right;have v:=F5 g c;have G:=Uc (Kf v) r;refine⟨⟨c,by omega,q.2 _ e⟩,⟨fun i hi=>?_,r⟩,(Qo (fun x a=>(Ou g c x a).1)).2 q.1⟩;by_cases hn:Nil (AK (p.s rs.toNat) i) (AW (p.s rs.toNat) i)
   ·exact Or.inl hn
   ·right;have B:=J8 v hi hn;have m:=F5 g B.1;obtain⟨l,u⟩:NO p (p.s (AK (p.s rs.toNat) i).toNat):=by
     rcases F i hi with h | h
     ·exact absurd h hn
     ·exact h
    have C:=Uc (Kf m) l;refine⟨⟨B.1,by omega,q.2 _ (n i hi hn)⟩,fun j d=>?_,l⟩;by_cases b:Nil (AK (p.s (AK (p.s rs.toNat) i).toNat) j) (AW (p.s (AK (p.s rs.toNat) i).toNat) j)
    ·exact Or.inl b
    ·right;have w:=J8 m d b;refine⟨w.1,?_,q.2 _ (o i hi hn _ (Md.2 ⟨j,d,rfl,b⟩))⟩;rcases u j d with h | h
     ·exact absurd h b
     ·exact h.2.1
 ·rintro(h | ⟨A,⟨z,r⟩,E⟩)
  ·exact Or.inl h
  ·right;have c:=A.1;have v:=F5 g c;have held:∀x,x∈AF p rs rb->¬Has p.hn p.h x.1:=fun x a=>by
    unfold AF at a;rw[if_neg k,List.mem_cons,L4]at a;rcases a with rfl | ⟨i,hi,a⟩
    ·exact A.2.2
    ·obtain⟨hn,a⟩:=Kr.1 a;rcases z i hi with h | ⟨y,t⟩
     ·exact absurd h hn
     ·rcases a with rfl | a
      ·exact y.2.2
      ·obtain⟨j,d,rfl,b⟩:=Md.1 a;rcases t.1 j d with h | h
       ·exact absurd h b
       ·exact h.2.2
   refine⟨c,⟨r,fun i hi=>?_⟩,(Qo (fun x a=>(Ou g c x a).1)).1 E,held⟩;rcases z i hi with h | ⟨y,t,D⟩
   ·exact Or.inl h
   ·refine Or.inr ⟨D,fun j d=>?_⟩;rcases t j d with h | h
    ·exact Or.inl h
    ·exact Or.inr ((zFk g h.1).2 h.2.1)
end Go.Proofs.YtibhefllijahkaaGreatDoor
