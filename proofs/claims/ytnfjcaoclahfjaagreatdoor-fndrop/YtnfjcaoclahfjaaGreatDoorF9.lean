/- A part of the proof. -/
import Derived.Test.YtnfjcaoclahfjaaGreatDoorF8
import Derived.Laws.CopyOwn
import Derived.Deep.RegionLaw
import Derived.Deep.WholeRow
set_option linter.unusedVariables false
set_option maxRecDepth 20000
set_option maxHeartbeats 4000000
namespace Go.Proofs.YtnfjcaoclahfjaaGreatDoor
open Go.RowKit
variable{P:Program}
theorem zCw(w:World)(n sT ty elem:TypeId)(size g o b f:Nat)(a:Addr)(c l:Nat)(d:Array Value)(t:TypeId)(cs:List Value)
 (s:P.underlying n=some (.slice elem)) (hs:(P.info? elem).map (·.size)=some size)
 (q:w.heap[g]?=some (.cells d t (0,0))) (hn:cs.length=Nat.min c b*size)
 (k:∀j v,cs[j]?=some v->w.cell? (a.add j)=some v) (h:o+cs.length<=d.size) (p:∀v∈cs,v.oneCell'=true) :
 (Builtin.copy_ #[n,sT] ty #[.slice (some ⟨g,o,none⟩) b f,.slice (some a) c l]).run P w =
  .ok (goInt (Nat.min c b)) (w.setRow g (d.toList.take o ++ cs ++ d.toList.drop (o+cs.length)).toArray):=by
 have r:=run_loadCells_list (P:=P) w a cs k;have m:=run_storeCells_at P g o t cs 0 d w q (by simpa using h) p;cases hq:P.info? elem with
 | none=>simp[hq]at hs
 | some i=>
  have hi:i.size=size:=(by simpa[hq]using hs);have e:Nat.min c b*i.size=cs.length:=(by rw[hi,hn]);simp[Builtin.copy_,run_underlying s,Builtin.lenOf,Builtin.firstCells,sizeOf,typeInfo,hq,e,r,m]
theorem zCh(w:World)(f sT ty elem:TypeId)(size:Nat)(d a:Option Addr)(c b e:Nat)
 (g:P.underlying f=some (.slice elem)) (hs:(P.info? elem).map (·.size)=some size) :
 (Builtin.copy_ #[f,sT] ty #[.slice d c b,.slice a 0 e]).run P w = .ok (goInt 0) w:=by
 cases hq:P.info? elem with
 | none=>simp[hq]at hs
 | some i=>
  cases a with
  | none=>cases d<;>simp[Builtin.copy_,run_underlying g,Builtin.lenOf,Builtin.firstCells,sizeOf,typeInfo,hq,storeCells]
  | some a=>cases d<;>simp[Builtin.copy_,run_underlying g,Builtin.lenOf,Builtin.firstCells,sizeOf,typeInfo,hq,storeCells,loadCells,loadCellsFrom]
def B7(s:AG)(j:Nat):Int:=if j / 2<s.kn then(if j % 2=0 then s.ks (j / 2)else s.kb (j / 2))else 0
def BP(f:Nat->Int):Array Value:=((List.range 16).map fun j=>Value.int .i64 (f j)).toArray
def BC(s:AG):Array Value:=BP (B7 s)
theorem EE(f:Nat->Int):(BP f).size=16:=by simp[BP]
theorem I3(f:Nat->Int){j:Nat}(h:j<16):(BP f)[j]?=some (.int .i64 (f j)):=by simp[BP,h]
theorem Kh(f:Nat->Int):(BP f).all (·.oneCell')=true:=by
 unfold BP;rw[Array.all_eq_true_iff_forall_mem];intro v hv;simp at hv;obtain⟨j,_,rfl⟩:=hv;rfl
theorem yS{f g:Nat->Int}(h:∀j,j<16->f j=g j):BP f=BP g:=by
 unfold BP;congr 1;apply List.map_congr_left;intro j a;rw[h j (by simpa using a)]
theorem Lg:(Tryz.prog.info? 204).map (·.size)=some 16:=by kernel_rfl
theorem Xx:(Tryz.prog.info? 40).map (·.size)=some 2:=by kernel_rfl
theorem IJ:Tryz.prog.underlying 204=some (.array 8 40):=by kernel_rfl
theorem zBB(w:World)(b a c:Obj):(((w.alloc b).alloc a).alloc c).heap[w.heap.size+1]?=some a/\(((w.alloc b).alloc a).alloc c).heap[w.heap.size+1+1]?=some c/\w.heap.size+1+1<(((w.alloc b).alloc a).alloc c).heap.size:=by
 refine⟨?_,?_,by simp⟩
 ·rw[Below.heap_alloc _ _ _ (by simp)];have:=heap_alloc_last (w.alloc b) a;rw[World.size_alloc]at this;exact this
 ·have:=heap_alloc_last ((w.alloc b).alloc a) c;rw[World.size_alloc,World.size_alloc]at this;exact this
theorem AC.setRow(w:World)(g:Nat)(cs:Array Value):AC (fun k=>k=g) w (w.setRow g cs):=
 ⟨rfl,rfl,rfl,by simp[World.setRow],fun k _ hs=>setRow_other w g k cs hs⟩
theorem zCL{q:Array Oper}{o:Oper}{a:Act}{w:World}{K:Act->World->Prop}{Q:Exit->Act->World->Prop}{E:Prop}(u:o.guard=none)(d s:Operand)
 (z:o.op = .call {callee:=.builtin .copy,args:=#[d,s],argTypes:=#[41,41]})
 (g:Nat) (x:Option Addr) (kc:Nat) (c:AG) (y:a.eval d = .slice (some ⟨g,0,none⟩) 8 8) (hs:a.eval s = .slice x c.kn kc)
 (t:w.heap[g]?=some (.cells (BP fun _=>0) 204 (0,0))) (p:c.kn=0\/(c.kn=8/\∃b off,x=some ⟨b,off,none⟩/\∀i,i<c.kn->w.cell? ⟨b,off+i*2,none⟩=some (.int .i64 (c.ks i))/\w.cell? ⟨b,off+i*2+1,none⟩=some (.int .i64 (c.kb i))))
 (h:∀w' v,Hid (w'.heap[g]?=some (.cells (BC c) 204 (0,0)))->AC (fun k=>k=g) w w'->K (a.put o.dst v) w') :
 if Region.wanted o (yielded q a.tmps)=true then Oper.wp Tryz.prog o a w K Q else E:=by
 have C:Region.wanted o (yielded q a.tmps)=true:=by simp[Region.wanted,u]
 rw[if_pos C];have A:Tryz.prog.underlying 41=some (.slice 40):=by kernel_rfl
 rcases p with p | ⟨p,b,off,rfl,B⟩
 ·rw[p]at hs;have f:=zCh (P:=Tryz.prog) w 41 41 o.type 40 2 (some ⟨g,0,none⟩) x 8 8 kc A Xx;unfold Oper.wp;simp[execOp,z,resolve,invoke,builtin,y,hs,f,Result.andThen];refine h _ _ ?_ (AC.refl _ _);show _=_;rw[t];have:BC c=BP (fun _=>0):=yS fun j _=>by unfold B7;rw[if_neg (by omega)]
  rw[this]
 ·rw[p]at hs;have f:=zCw (P:=Tryz.prog) w 41 41 o.type 40 2 g 0 8 8 ⟨b,off,none⟩ 8 kc (BP fun _=>0) 204 (BC c).toList A Xx t (by simp[BC,BP]) (fun j v r=>by
   have n:j<16:=by
    have:=(List.getElem?_eq_some_iff.1 r).1;simpa[BC,EE]using this
   have e:(BC c).toList[j]?=some (.int .i64 (B7 c j)):=(by rw[Array.getElem?_toList];exact I3 (B7 c) n);rw[e]at r;simp only[Option.some.injEq]at r;subst r;have l:(⟨b,off,none⟩:Addr).add j=⟨b,off+j,none⟩:=(by unfold Addr.add;split<;>simp_all);rw[l];unfold B7;rw[if_pos (by omega)];have m:=B (j / 2) (by omega);split
   ·rw[show off+j=off+j / 2*2 by omega];exact m.1
   ·rw[show off+j=off+j / 2*2+1 by omega];exact m.2) (by simp[BC,BP]) (fun v hv=>(Array.all_eq_true_iff_forall_mem.1 (Kh _)) v (by simpa[BC]using hv))
  unfold Oper.wp;simp[execOp,z,resolve,invoke,builtin,y,hs,f,Result.andThen];refine h _ _ ?_ (AC.setRow _ _ _);show _=_;rw[setRow_heap w g _ _ 204 (0,0) t];have e0:((BP fun _=>0).toList.drop 16) = []:=List.drop_eq_nil_of_le (by simp[BP]);simp[BC,EE,e0]
theorem OP(z v1 A:Value)(lo hi:Nat)(s:AG)(w:World)(H:Cr w lo hi z v1 A s)(t:s.kn=0\/s.kn=8) :
 Calls Tryz.prog 170 #[.agg #[z,v1,A]] w fun e w'=>e = .returned (.agg (BC s))/\Below w.heap.size w w':=by
 obtain⟨rfl,⟨K,a,c,rfl,U,y⟩,rfl,L⟩:=H;unfold maxLen at K L;have B:Hid (0<s.kn->∃b off,a=some ⟨b,off,none⟩/\lo<=b/\b<hi/\∀i,i<s.kn->w.cell? ⟨b,off+i*2,none⟩=some (.int .i64 (s.ks i))/\w.cell? ⟨b,off+i*2+1,none⟩=some (.int .i64 (s.kb i))):=y;have F:Hid (s.kn=0\/s.kn=8):=t;clear y t;go_enter Tryz.func170,Tryz.ntmps170;go_wp2_with fail;obtain⟨W,n⟩:∃W:World,W=((w.alloc (.cells #[.int .i64 s.birth,.slice a s.kn c,.string s.data] 108)).alloc (.cells #[Value.int .i64 0,Value.int .i64 0,Value.int .i64 0,Value.int .i64 0,Value.int .i64 0,Value.int .i64 0,Value.int .i64 0,Value.int .i64 0,Value.int .i64 0,Value.int .i64 0,Value.int .i64 0,Value.int .i64 0,Value.int .i64 0,Value.int .i64 0,Value.int .i64 0,Value.int .i64 0] 204)).alloc (.cells #[Value.int .i64 0,Value.int .i64 0,Value.int .i64 0,Value.int .i64 0,Value.int .i64 0,Value.int .i64 0,Value.int .i64 0,Value.int .i64 0,Value.int .i64 0,Value.int .i64 0,Value.int .i64 0,Value.int .i64 0,Value.int .i64 0,Value.int .i64 0,Value.int .i64 0,Value.int .i64 0] 204):=⟨_,rfl⟩;have x:(#[Value.int .i64 0,Value.int .i64 0,Value.int .i64 0,Value.int .i64 0,Value.int .i64 0,Value.int .i64 0,Value.int .i64 0,Value.int .i64 0,Value.int .i64 0,Value.int .i64 0,Value.int .i64 0,Value.int .i64 0,Value.int .i64 0,Value.int .i64 0,Value.int .i64 0,Value.int .i64 0]:Array Value)=BP (fun _=>0):=rfl;have q:Below w.heap.size w W:=by rw[n];exact A8 (A8 (A9 _ _) (A9 _ _)) (A9 _ _)
 have G:Hid (Ca W w.heap.size (.int .i64 s.birth) (.slice a s.kn c) (.string s.data)):=by rw[n];exact((Ca.new w _ _ _ _).A1 (A9 _ _)).A1 (A9 _ _)
 have d:=zBB w (.cells #[.int .i64 s.birth,.slice a s.kn c,.string s.data] 108) (.cells #[Value.int .i64 0,Value.int .i64 0,Value.int .i64 0,Value.int .i64 0,Value.int .i64 0,Value.int .i64 0,Value.int .i64 0,Value.int .i64 0,Value.int .i64 0,Value.int .i64 0,Value.int .i64 0,Value.int .i64 0,Value.int .i64 0,Value.int .i64 0,Value.int .i64 0,Value.int .i64 0] 204) (.cells #[Value.int .i64 0,Value.int .i64 0,Value.int .i64 0,Value.int .i64 0,Value.int .i64 0,Value.int .i64 0,Value.int .i64 0,Value.int .i64 0,Value.int .i64 0,Value.int .i64 0,Value.int .i64 0,Value.int .i64 0,Value.int .i64 0,Value.int .i64 0,Value.int .i64 0,Value.int .i64 0] 204);rw[<-n]at d;have E:Hid (W.heap[w.heap.size+1]?=some (.cells (BP fun _=>0) 204 (0,0))):=d.1;have D:Hid (W.heap[w.heap.size+1+1]?=some (.cells (BP fun _=>0) 204 (0,0))):=d.2.1;have J:w.heap.size+1+1<W.heap.size:=d.2.2;clear d;have C:Hid (s.kn=0\/(s.kn=8/\∃b off,a=some ⟨b,off,none⟩/\∀i,i<s.kn->W.cell? ⟨b,off+i*2,none⟩=some (.int .i64 (s.ks i))/\W.cell? ⟨b,off+i*2+1,none⟩=some (.int .i64 (s.kb i)))):=by
  rcases F.out with h | h
  ·exact Or.inl h
  ·obtain⟨b,off,I,_,_,o⟩:=B.out (by omega);exact Or.inr ⟨h,b,off,I,fun i hi=>⟨(q.cell (AM (o i hi).1)).trans (o i hi).1,(q.cell (AM (o i hi).2)).trans (o i hi).2⟩⟩
 rw[<-n];clear n x;obtain⟨⟨M,N⟩,⟨O,Q⟩,⟨R,S⟩⟩:=G.out
 go_region_law (refine zCL rfl (.tmp 4) (.tmp 6) rfl (w.heap.size+1+1) a c s (by simp[Act.eval]) (by simp[Act.eval]) D.out C.out ?_;intro u T p j)
 have m:u.heap[w.heap.size+1]?=some (.cells (BP fun _=>0) 204 (0,0)):=(j.block _ (by show _<W.heap.size;omega) (by omega)).trans E.out;have l:Hid (u.heap[w.heap.size+1]?=some (.cells (BP fun _=>0) 204 (0,0))):=m;have r:Below w.heap.size w u:=q.drew.trans (j.A1 (by show _<=W.heap.size;omega) (by intro k t;omega));clear m j M N O Q R S;have g:(Tryz.prog.info? 204).map (·.size)=some (BC s).size:=by rw[BC,EE];exact Lg
 have f:Hid ((Tryz.prog.info? 204).map (·.size)=some (BC s).size):=g;clear g;go_wp2_with (first
  | (refine wpList_load_row rfl 204 (.tmp 3) rfl (w.heap.size+1+1) rfl 204 (BC s) (0,0) _ p.out IJ rfl f.out ?_)
  | (refine wpList_store_row rfl 204 (.tmp 2) (.tmp 8) rfl (w.heap.size+1) (BC s) rfl rfl 204 (BP fun _=>0) l.out f.out (by rw[BC,EE,EE]) (Kh _) ?_))
 refine bodyPost_ret (v:=.agg (BC s)) (results_cell_row (P:=Tryz.prog) (ty:=204) Tryz.results170 _ _ (w.heap.size+1) 204 (BC s) (0,0) _ rfl (setRow_heap _ _ _ _ _ _ l.out) IJ rfl f.out) rfl ⟨rfl,?_⟩;exact below_setRow r (by omega) _
def Fk(n:Nat)(f:Nat->AG)(b ks kb rs rb:Int):Prop:=
 ∃ps pb,DR n f ks ps pb/\(((JE ks kb 0 0\/b<pb)/\rs=0/\rb=0)\/(¬(JE ks kb 0 0\/b<pb)/\rs=ps/\rb=pb))
theorem zCG(v:Value)(n lo hi:Nat)(f:Nat->AG)(g kb b:Int)(w:World)(B:BU w lo hi v n f) :
 Calls Tryz.prog 187 #[v,.agg #[.int .i64 g,.int .i64 kb],.int .i64 b] w fun e w'=>(∃rs rb,e = .returned (.agg #[.int .i64 rs,.int .i64 rb])/\Fk n f b g kb rs rb)/\Below w.heap.size w w':=by
 have E:Hid (BU w lo hi v n f):=B;obtain⟨L,a,c,rfl,M,H⟩:=B;clear H;have s:Hid (Below w.heap.size w ((w.alloc (.cells #[.int .i64 g,.int .i64 kb] 40)).alloc (.cells #[.int .i64 0,.int .i64 0] 40))):=A8 (A9 _ _) (A9 _ _);go_enter Tryz.func187,Tryz.ntmps187;go_wp2_with fail;refine(OF _ n lo hi f _ _ (E.out.A1 s.out)).mono ?_;rintro e q ⟨⟨ps,i,rfl,C⟩,k⟩;have x:Hid (DR n f g ps i):=C;have z:Hid (Ad q w.heap.size (.int .i64 g) (.int .i64 kb)):=((Ad.new w _ _ _).A1 (A9 _ _)).A1 k;have u:Hid (Ad q (w.heap.size+1) (.int .i64 0) (.int .i64 0)):=by
  have:=(Ad.new (w.alloc (.cells #[.int .i64 g,.int .i64 kb] 40)) (.int .i64 0) (.int .i64 0) 40).A1 k;rw[World.size_alloc]at this;exact this
 have y:=A8 s.out k;have K:w.heap.size<q.heap.size:=z.out.1.lt;have J:w.heap.size+1<q.heap.size:=u.out.1.lt;clear C k;obtain⟨⟨N,O⟩,⟨P,Q⟩⟩:=z.out;obtain⟨⟨y0,y1⟩,⟨R,S⟩⟩:=u.out;have A:=fun o p=>(u.out.put o p).A1 (A9 _ (.cells #[.int .i64 ps,.int .i64 i] 40))
 have m:Hid (∀o p,Ad (((q.setCell ⟨w.heap.size+1,0,none⟩ o).setCell ⟨w.heap.size+1,1,none⟩ p).alloc (.cells #[.int .i64 ps,.int .i64 i] 40)) (w.heap.size+1) o p):=A;clear A;have l:Hid (∀o p,Below w.heap.size w (((q.setCell ⟨w.heap.size+1,0,none⟩ o).setCell ⟨w.heap.size+1,1,none⟩ p).alloc (.cells #[.int .i64 ps,.int .i64 i] 40))):=fun o p=>((y.setCell (by show _<=w.heap.size+1;omega) _).setCell (by show _<=w.heap.size+1;omega) _).alloc (by simp;omega) _
 by_cases d:JE g kb 0 0
 ·obtain⟨rfl,rfl⟩:=d;have r:Hid (Fk n f b 0 0 0 0):=⟨ps,i,x.out,Or.inl ⟨Or.inl ⟨rfl,rfl⟩,rfl,rfl⟩⟩;go_wp2;have j:=m.out (.int .i64 0) (.int .i64 0);refine bodyPost_ret (v:=.agg #[.int .i64 0,.int .i64 0]) (by simp[results,Tryz.results187,go_sem,j.1.1,j.2.1]) rfl ⟨⟨_,_,rfl,r.out⟩,l.out _ _⟩
 ·have D:Hid (¬JE g kb 0 0):=d;have e0:(g == 0)=false\/(g == 0)=true/\(kb == 0)=false:=by
   by_cases h:g=0
   ·right;refine⟨by simp[h],?_⟩;have:kb≠0:=fun I=>d ⟨h,I⟩
    simp[this]
   ·left;simp[h]
  clear d;by_cases t:b<i
  ·have r:Hid (Fk n f b g kb 0 0):=⟨ps,i,x.out,Or.inl ⟨Or.inr t,rfl,rfl⟩⟩;have j:=m.out (.int .i64 0) (.int .i64 0);have F:Hid (Ad (((q.setCell ⟨w.heap.size+1,0,none⟩ (.int .i64 0)).setCell ⟨w.heap.size+1,1,none⟩ (.int .i64 0)).alloc (.cells #[.int .i64 ps,.int .i64 i] 40)) (w.heap.size+1) (.int .i64 0) (.int .i64 0)):=j;clear j;rcases e0 with e0 | ⟨e0,G⟩
   all_goals
    go_wp2;have j:=F.out;refine bodyPost_ret (v:=.agg #[.int .i64 0,.int .i64 0]) (by simp[results,Tryz.results187,go_sem,j.1.1,j.2.1]) rfl ⟨⟨_,_,rfl,r.out⟩,l.out _ _⟩
  ·have r:Hid (Fk n f b g kb ps i):=⟨ps,i,x.out,Or.inr ⟨fun h=>by rcases h with h | h;exact D.out h;exact t h,rfl,rfl⟩⟩;rcases e0 with e0 | ⟨e0,G⟩
   all_goals
    go_wp2;have j:=m.out (.int .i64 ps) (.int .i64 i);refine bodyPost_ret (v:=.agg #[.int .i64 ps,.int .i64 i]) (by simp[results,Tryz.results187,go_sem,j.1.1,j.2.1]) rfl ⟨⟨_,_,rfl,r.out⟩,l.out _ _⟩
def Qk(n:Nat)(f:Nat->AG)(s:AG):Prop:=∀i,i<8->Fk n f s.birth (s.ks i) (s.kb i) (s.ks i) (s.kb i)
variable{n:Nat}{f:Nat->AG}
theorem DR.uniq{x ps pb e d:Int}(h:DR n f x ps pb)(i:DR n f x e d):ps=e/\pb=d:=by
 rcases h with⟨a,b,c,rfl,rfl⟩ | ⟨a,rfl,rfl⟩<;>rcases i with⟨g,b',c',rfl,rfl⟩ | ⟨g,rfl,rfl⟩
 ·exact⟨rfl,rfl⟩
 ·exact absurd ⟨a,b,c⟩ g
 ·exact absurd ⟨g,b',c'⟩ a
 ·exact⟨rfl,rfl⟩
variable{rs rb:Int}
theorem Fk.uniq{b ks kb d c:Int}(h:Fk n f b ks kb rs rb)(g:Fk n f b ks kb d c):rs=d/\rb=c:=by
 obtain⟨ps,m,j,h⟩:=h;obtain⟨l,k,i,g⟩:=g;obtain⟨rfl,rfl⟩:=j.uniq i;rcases h with⟨a,rfl,rfl⟩ | ⟨a,rfl,rfl⟩<;>rcases g with⟨e,rfl,rfl⟩ | ⟨e,rfl,rfl⟩
 ·exact⟨rfl,rfl⟩
 ·exact absurd a e
 ·exact absurd e a
 ·exact⟨rfl,rfl⟩
theorem yT(g:Nat->Int)(k:Nat)(e:k<8)(x y:Int):((BP g).setIfInBounds (k*2) (.int .i64 x)).setIfInBounds (k*2+1) (.int .i64 y)=BP (fun j=>if j=k*2 then x else if j=k*2+1 then y else g j):=by
 apply Array.ext_getElem?;intro i;rw[Array.getElem?_setIfInBounds,Array.getElem?_setIfInBounds];simp only[Array.size_setIfInBounds,EE];by_cases a:i<16
 ·rw[I3 _ a,I3 _ a];by_cases b:k*2+1=i
  ·subst b;rw[if_pos rfl,if_pos (by omega),if_neg (by omega),if_pos rfl]
  ·rw[if_neg b];by_cases e0:k*2=i
   ·subst e0;rw[if_pos rfl,if_pos (by omega),if_pos rfl]
   ·rw[if_neg e0,if_neg (by omega),if_neg (by omega)]
 ·have c:(BP g)[i]?=none:=Array.getElem?_eq_none (by rw[EE];omega);have d:(BP (fun j=>if j=k*2 then x else if j=k*2+1 then y else g j))[i]?=none:=Array.getElem?_eq_none (by rw[EE];omega);rw[c,d,if_neg (by omega),if_neg (by omega)]
theorem yw(g:Nat->Int)(k:Nat)(a:k<8)(w:World):(Instr.index 204 (.agg (BP g)) (.int .i64 (k:Int))).run Tryz.prog w = .ok (.agg #[.int .i64 (g (k*2)),.int .i64 (g (k*2+1))]) w:=by
 rcases(by omega:k=0\/k=1\/k=2\/k=3\/k=4\/k=5\/k=6\/k=7)with rfl | rfl | rfl | rfl | rfl | rfl | rfl | rfl
 all_goals kernel_rfl
theorem zEb(g:Nat->Int)(k:Nat)(a:k<8)(w:World):(part 40 (BP g) (k*2)).run Tryz.prog w = .ok (.agg #[.int .i64 (g (k*2)),.int .i64 (g (k*2+1))]) w:=by
 rcases(by omega:k=0\/k=1\/k=2\/k=3\/k=4\/k=5\/k=6\/k=7)with rfl | rfl | rfl | rfl | rfl | rfl | rfl | rfl
 all_goals kernel_rfl
theorem zGT(d:Nat)(a b c e:Int)(w:World):(Op.equalIn (d+2) 40 (.agg #[.int .i64 a,.int .i64 b]) (.agg #[.int .i64 c,.int .i64 e])).run Tryz.prog w = .ok (a == c && b == e) w:=by
 by_cases f:a=c<;>by_cases g:b=e
 all_goals simp[go_sem,f,g]
theorem zHC(w:World):(sizeOf 40).run Tryz.prog w = .ok 2 w:=by kernel_rfl
theorem VB{P:Program}(b:Nat->Bool)(F:Nat->Option Bool×Unit->Sem (ForInStep (Option Bool×Unit))):∀(L:List Nat) (w:World),(∀i∈L,∀s w,(F i s).run P w = .ok (if b i then .yield (none,())else .done (some false,())) w)->
 (forIn L (none,()) F).run P w = .ok (if L.all b then(none,())else(some false,())) w
 | [],w,_=>by simp[Sem.run_pure]
 | i :: L,w,hF=>by
  simp only[List.forIn_cons,Sem.run_bind,hF i (by simp),Result.andThen_ok,List.all_cons];by_cases a:b i=true
  ·simp only[a,if_true,Bool.true_and];exact VB b F L w (fun j c=>hF j (by simp[c]))
  ·simp[a,Sem.run_pure]
def GJ(g h:Nat->Int):Bool:=(List.range 8).all fun i=>g (i*2) == h (i*2) && g (i*2+1) == h (i*2+1)
theorem Ua(g h:Nat->Int):GJ g h=true↔∀i,i<8->g (i*2)=h (i*2)/\g (i*2+1)=h (i*2+1):=by
 simp[GJ,List.all_eq_true]
theorem yX(g h:Nat->Int)(d:Nat)(w:World):(Op.equalIn (d+3) 204 (.agg (BP g)) (.agg (BP h))).run Tryz.prog w = .ok (GJ g h) w:=by
 rw[Op.equalIn];simp only[Sem.run_bind,run_underlying IJ,Result.andThen_ok,zHC];rw[Std.Legacy.Range.forIn_eq_forIn_range'];have e:=VB (P:=Tryz.prog) (fun i=>g (i*2) == h (i*2) && g (i*2+1) == h (i*2+1)) (fun i (b:Option Bool×Unit)=>do
     let __do_lift <-part 40 (BP g) (i*2)
     let __do_lift_1 <-part 40 (BP h) (i*2)
     let __do_lift <-Op.equalIn (d+2) 40 __do_lift __do_lift_1
     if (!__do_lift)=true then pure (ForInStep.done (some false,()))else pure (ForInStep.yield (none,()))) (List.range 8) w (fun i hi s w=>by
  have a:i<8:=(by simpa using hi);simp only[Sem.run_bind,zEb _ i a,Result.andThen_ok,zGT];cases (g (i*2) == h (i*2) && g (i*2+1) == h (i*2+1))<;>simp[Sem.run_pure])
 have c:List.range' 0 (([:8]:Std.Legacy.Range).size) ([:8]:Std.Legacy.Range).step=List.range 8:=by rfl
 rw[c,e];simp only[Result.andThen_ok];unfold GJ;cases ((List.range 8).all fun i=>g (i*2) == h (i*2) && g (i*2+1) == h (i*2+1))<;>simp[Sem.run_pure]
theorem TG(g h:Nat->Int)(w:World):(binOp .eql 204 (.agg (BP g)) (.agg (BP h))).run Tryz.prog w = .ok (.bool (GJ g h)) w:=by
 rw[run_eql_struct,yX g h 9997];rfl
theorem zCc(v T v1 U:Value)(n lo hi y x:Nat)(f:Nat->AG)(s:AG)(w:World)(X:BU w lo hi v n f)(Y:Cr w y x T v1 U s)(S:s.kn=8) :
 Calls Tryz.prog 159 #[v,.agg #[T,v1,U]] w fun e w'=>AJ (Qk n f s) e/\Below w.heap.size w w':=by
 have Hv:Hid (BU w lo hi v n f):=X;obtain⟨m1,a,c,rfl,mc,g1⟩:=X;have Hs:Hid (Cr w y x T v1 U s):=Y;obtain⟨rfl,⟨m2,G,kc,rfl,lA,g2⟩,rfl,m3⟩:=Y;have J:Hid (s.kn=8):=S;clear g1 g2 S;go_enter Tryz.func159,Tryz.ntmps159;go_wp2_with fail;have r:=A9 w (.cells #[.int .i64 s.birth,.slice G s.kn kc,.string s.data] 108);refine(OP _ _ _ y x s _ (Hs.out.A1 r) (Or.inr J.out)).mono ?_;rintro e b ⟨rfl,u⟩;have W:Hid (Ca b w.heap.size (.int .i64 s.birth) (.slice G s.kn kc) (.string s.data)):=(Ca.new w _ _ _ _).A1 u;have Q:=A8 r u;have l:Hid ((Tryz.prog.info? 204).map (·.size)=some (BC s).size):=by
  show _=_;rw[BC,EE];exact Lg
 clear r u;have H:(#[Value.int .i64 0,Value.int .i64 0,Value.int .i64 0,Value.int .i64 0,Value.int .i64 0,Value.int .i64 0,Value.int .i64 0,Value.int .i64 0,Value.int .i64 0,Value.int .i64 0,Value.int .i64 0,Value.int .i64 0,Value.int .i64 0,Value.int .i64 0,Value.int .i64 0,Value.int .i64 0]:Array Value)=BP (fun _=>0):=rfl;have A:Hid ((#[Value.int .i64 0,Value.int .i64 0,Value.int .i64 0,Value.int .i64 0,Value.int .i64 0,Value.int .i64 0,Value.int .i64 0,Value.int .i64 0,Value.int .i64 0,Value.int .i64 0,Value.int .i64 0,Value.int .i64 0,Value.int .i64 0,Value.int .i64 0,Value.int .i64 0,Value.int .i64 0]:Array Value)=BP (fun _=>0)):=H;clear H;go_wp2_with (first
  | (refine wpList_store_row rfl 204 (.tmp 5) (.tmp 10) rfl b.heap.size (BC s) rfl rfl 204 #[Value.int .i64 0,Value.int .i64 0,Value.int .i64 0,Value.int .i64 0,Value.int .i64 0,Value.int .i64 0,Value.int .i64 0,Value.int .i64 0,Value.int .i64 0,Value.int .i64 0,Value.int .i64 0,Value.int .i64 0,Value.int .i64 0,Value.int .i64 0,Value.int .i64 0,Value.int .i64 0] (heap_alloc_last _ _) l.out (by rw[BC,EE];rfl) (Kh _) ?_;rw[World.setRow_alloc_new])
  | (refine wpList_load_row rfl 204 (.tmp 5) rfl b.heap.size rfl 204 (BC s) (0,0) _ ?hh IJ rfl l.out ?_;(exact(Below.heap_alloc _ _ _ (by simp)).trans (heap_alloc_last _ _))))
 have cA:w.heap.size<b.heap.size:=W.out.1.lt
 go_loopw [12] (fun i wr=>∃(k:Nat) (g:Nat->Int),k<=8/\i = .int .i64 k/\(∀j,j<k->Fk n f s.birth (s.ks j) (s.kb j) (g (j*2)) (g (j*2+1)))/\Ca wr w.heap.size (.int .i64 s.birth) (.slice G s.kn kc) (.string s.data)/\
  wr.heap[b.heap.size]?=some (.cells (BC s) 204 (0,0))/\wr.heap[b.heap.size+1]?=some (.cells (BP g) 204 (0,0))/\Below w.heap.size w wr) (fun i _=>8 - (intOf i).toNat)
 case atStart=>
  refine⟨0,fun _=>0,Nat.zero_le _,rfl,fun j hj=>absurd hj (Nat.not_lt_zero _),(W.out.A1 (A9 _ _)).A1 (A9 _ _),?_,?_,A8 (A8 Q (A9 _ _)) (A9 _ _)⟩
  ·exact(Below.heap_alloc _ _ _ (by simp)).trans (heap_alloc_last _ _)
  ·have:=heap_alloc_last (b.alloc (.cells (BC s) 204)) (.cells #[Value.int .i64 0,Value.int .i64 0,Value.int .i64 0,Value.int .i64 0,Value.int .i64 0,Value.int .i64 0,Value.int .i64 0,Value.int .i64 0,Value.int .i64 0,Value.int .i64 0,Value.int .i64 0,Value.int .i64 0,Value.int .i64 0,Value.int .i64 0,Value.int .i64 0,Value.int .i64 0] 204);rw[World.size_alloc]at this;rw[this,A.out]
 case round=>
  obtain⟨k,g,S,rfl,p,hx,hK,hF,K⟩:=hrel;have d:Hid (∀j,j<k->Fk n f s.birth (s.ks j) (s.kb j) (g (j*2)) (g (j*2+1))):=p;have N:Hid (Ca wr w.heap.size (.int .i64 s.birth) (.slice G s.kn kc) (.string s.data)):=hx;have L:Hid (wr.heap[b.heap.size]?=some (.cells (BC s) 204 (0,0))):=hK;have I:Hid (wr.heap[b.heap.size+1]?=some (.cells (BP g) 204 (0,0))):=hF;clear p hx hK hF;have F:b.heap.size+1<wr.heap.size:=(Array.getElem?_eq_some_iff.1 I.out).1;by_cases E:k<8
  ·have bA:(k:Int)<8:=(by omega);have C:∀w,(Instr.index 204 (.agg (BC s)) (.int .i64 (k:Int))).run Tryz.prog w = .ok (.agg #[.int .i64 (s.ks k),.int .i64 (s.kb k)]) w:=fun w=>by
    have e:=yw (B7 s) k E w;have e0:B7 s (k*2)=s.ks k:=(by unfold B7;rw[if_pos (by have:=J.out;omega),if_pos (by omega),show k*2 / 2=k by omega]);have e1:B7 s (k*2+1)=s.kb k:=(by unfold B7;rw[if_pos (by have:=J.out;omega),if_neg (by omega),show(k*2+1) / 2=k by omega]);rw[e0,e1]at e;exact e
   obtain⟨⟨x0,x1⟩,⟨x2,x3⟩,⟨x4,x5⟩⟩:=N.out;have dA:w.heap.size<wr.heap.size:=(by omega);go_wp2_with fail;have t:=A9 wr (.cells #[.int .i64 (s.ks k),.int .i64 (s.kb k)] 40);refine(zCG _ n lo hi f _ _ _ _ (Hv.out.A1 (A8 K t))).mono ?_;rintro e V ⟨⟨rs,rb,rfl,D⟩,B⟩;have P:Hid (Fk n f s.birth (s.ks k) (s.kb k) rs rb):=D;have m:=A8 t B;have q:Hid (V.heap[b.heap.size+1]?=some (.cells (BP g) 204 (0,0))):=(m.block _ F).trans I.out;have M:Hid (V.heap[b.heap.size]?=some (.cells (BC s) 204 (0,0))):=(m.block _ (by omega)).trans L.out;have O:Hid (Ca V w.heap.size (.int .i64 s.birth) (.slice G s.kn kc) (.string s.data)):=N.out.A1 m;have R:=A8 K m;clear D B t m x0 x1 x2 x3 x4 x5 C I L N K;obtain⟨y0,y1⟩:=At (i:=k*2) q.out (I3 g (by omega));obtain⟨y2,y3⟩:=At (i:=k*2+1) q.out (I3 g (by omega));go_wp2;go_roundw
   case rel=>
    refine⟨k+1,fun j=>if j=k*2 then rs else if j=k*2+1 then rb else g j,by omega,by go_num,fun j hj=>?_,(O.out.other _ (by omega)).other _ (by omega),?_,?_,(R.setCell (by show _<=b.heap.size+1;omega) _).setCell (by show _<=b.heap.size+1;omega) _⟩
    ·by_cases e:j=k
     ·subst e;simp only[if_true];rw[if_neg (by omega)];exact P.out
     ·simp only;rw[if_neg (by omega),if_neg (by omega),if_neg (by omega),if_neg (by omega)];exact d.out j (by omega)
    ·rw[Below.heap_setCell _ _ _ _ (by show b.heap.size≠b.heap.size+1;omega),Below.heap_setCell _ _ _ _ (by show b.heap.size≠b.heap.size+1;omega)];exact M.out
    ·have:=Ye (o:=k*2+1) (.int .i64 rb) (Ye (o:=k*2) (.int .i64 rs) q.out);rw[yT g k E]at this;exact this
   case measure=>simp[intOf];omega
  ·obtain rfl:k=8:=(by omega);have Z:∀w,(binOp .eql 204 (.agg (BP g)) (.agg (BC s))).run Tryz.prog w = .ok (.bool (GJ g (B7 s))) w:=fun w=>TG g (B7 s) w
   have z:Hid ((Tryz.prog.info? 204).map (·.size)=some (BP g).size):=by
    show _=_;rw[EE];exact Lg
   go_wp2_with (first
    | (refine wpList_load_row rfl 204 (.tmp 6) rfl (b.heap.size+1) rfl 204 (BP g) (0,0) _ I.out IJ rfl z.out ?_)
    | (refine wpList_load_row rfl 204 (.tmp 5) rfl b.heap.size rfl 204 (BC s) (0,0) _ L.out IJ rfl l.out ?_))
   go_ret;refine⟨⟨_,rfl,?_⟩,K⟩;rw[Ua];have e0:∀i,i<8->B7 s (i*2)=s.ks i/\B7 s (i*2+1)=s.kb i:=fun i hi=>by
    have:=J.out;refine⟨?_,?_⟩
    ·unfold B7;rw[if_pos (by omega),if_pos (by omega),show i*2 / 2=i by omega]
    ·unfold B7;rw[if_pos (by omega),if_neg (by omega),show(i*2+1) / 2=i by omega]
   constructor
   ·intro h i hi;have:=d.out i hi;rw[(h i hi).1,(h i hi).2,(e0 i hi).1,(e0 i hi).2]at this;exact this
   ·intro h i hi;rw[(e0 i hi).1,(e0 i hi).2];exact(d.out i hi).uniq (h i hi)
def Ku(n:Nat)(f:Nat->AG)(s:AG):Prop:=Am s\/FJ s\/(IM s/\Qk n f s)
def LY(p:A7)(i:Nat):Prop:=¬DR p.n p.s (p.h i) 0 0/\¬Has i p.h (p.h i)
def zHe(p:A7):Prop:=p.n<=200/\p.hn<=p.n/\(∀i,i<p.n->Ku p.n p.s (p.s i))/\∀i,i<p.hn->LY p i
theorem zCk(v L v1 M:Value)(n lo hi i g:Nat)(f:Nat->AG)(s:AG)(w:World)(N:BU w lo hi v n f)(O:Cr w i g L v1 M s) :
 Calls Tryz.prog 124 #[v,.agg #[L,v1,M]] w fun e w'=>AJ (Ku n f s) e/\Below w.heap.size w w':=by
 have Q:Hid (BU w lo hi v n f):=N;obtain⟨X,a,c,rfl,mc,R⟩:=N;have H:Hid (Cr w i g L v1 M s):=O;obtain⟨rfl,⟨Y,I,kc,rfl,T,S⟩,rfl,Z⟩:=O;clear R S;go_enter Tryz.func124,Tryz.ntmps124;go_wp2_with fail;have o:=A9 w (.cells #[.int .i64 s.birth,.slice I s.kn kc,.string s.data] 108);refine(ON _ _ _ i g s _ (H.out.A1 o)).mono ?_;rintro e U ⟨⟨t,rfl,d⟩,p⟩;have J:Hid (Ca U w.heap.size (.int .i64 s.birth) (.slice I s.kn kc) (.string s.data)):=(Ca.new w _ _ _ _).A1 p;have k:=A8 o p;clear o p;by_cases b:Am s
 ·obtain rfl:t=true:=d.2 b;have E:Hid (Am s):=b;clear d b;go_wp2;go_ret;exact⟨AJ.yes (Or.inl E.out),k⟩
 ·obtain rfl:t=false:=Bb d b;have E:Hid (¬Am s):=b;clear d b;obtain⟨⟨y,z⟩,⟨A,B⟩,⟨C,D⟩⟩:=J.out;go_wp2_with fail;refine(XA _ _ _ i g s _ (H.out.A1 k)).mono ?_;rintro e V ⟨⟨t,rfl,d⟩,q⟩;have m:Hid (Ca V w.heap.size (.int .i64 s.birth) (.slice I s.kn kc) (.string s.data)):=J.out.A1 q;have l:=A8 k q;clear q k y z A B C D J;by_cases b:FJ s
  ·obtain rfl:t=true:=d.2 b;have G:Hid (FJ s):=b;clear d b;go_wp2;go_ret;exact⟨AJ.yes (Or.inr (Or.inl G.out)),l⟩
  ·obtain rfl:t=false:=Bb d b;have G:Hid (¬FJ s):=b;clear d b;obtain⟨⟨y,z⟩,⟨A,B⟩,⟨C,D⟩⟩:=m.out;go_wp2_with fail;refine(zAX _ _ _ i g s _ (H.out.A1 l)).mono ?_;rintro e W ⟨⟨t,rfl,d⟩,r⟩;have u:Hid (Ca W w.heap.size (.int .i64 s.birth) (.slice I s.kn kc) (.string s.data)):=m.out.A1 r;have j:=A8 l r;clear r l y z A B C D m;by_cases b:IM s
   ·obtain rfl:t=true:=d.2 b;have F:Hid (IM s):=b;clear d b;obtain⟨⟨y,z⟩,⟨A,B⟩,⟨C,D⟩⟩:=u.out;go_wp2_with fail;refine(zCc _ _ _ _ n lo hi i g f s _ (Q.out.A1 j) (H.out.A1 j) F.out.2.1).mono ?_;rintro e w4 ⟨⟨t,rfl,d⟩,x⟩;have P:Hid (t=true↔Qk n f s):=d;have K:=A8 j x;clear x j y z A B C D u d;go_wp2;go_ret;refine⟨⟨t,rfl,P.out.trans ⟨fun h=>Or.inr (Or.inr ⟨F.out,h⟩),fun h=>?_⟩⟩,K⟩;rcases h with h | h | h
    ·exact absurd h E.out
    ·exact absurd h G.out
    ·exact h.2
   ·obtain rfl:t=false:=Bb d b;have F:Hid (¬IM s):=b;clear d b;go_wp2;go_ret;refine⟨AJ.no fun h=>?_,j⟩;rcases h with h | h | h
    ·exact E.out h
    ·exact G.out h
    ·exact F.out h.1
theorem zCX(H v1:Value)(lo hi:Nat)(p:A7)(w:World)(O:DU w lo hi H v1 p) :
 Calls Tryz.prog 125 #[.agg #[H,v1]] w fun e w'=>AJ (∀i,i<p.hn->LY p i) e/\Below w.heap.size w w':=by
 have M:Hid (DU w lo hi H v1 p):=O;obtain⟨⟨m1,a,c,rfl,mc,U⟩,⟨m2,F,c',rfl,cA,V⟩⟩:=O;unfold maxLen at m1 m2;clear U V;go_enter Tryz.func125,Tryz.ntmps125;go_wp2
 go_loopw [8] (fun i wr=>∃k:Nat,k<=p.hn/\i = .int .i64 k/\(∀j,j<k->LY p j)/\Ad wr w.heap.size (.slice a p.n c) (.slice F p.hn c')/\Below w.heap.size w wr) (fun i _=>p.hn - (intOf i).toNat)
 case atStart=>exact⟨0,Nat.zero_le _,rfl,fun j Y=>absurd Y (Nat.not_lt_zero _),Ad.new _ _ _ _,A9 _ _⟩
 case round=>
  obtain⟨k,hk,rfl,l,Q,A⟩:=hrel;have g:Hid (∀j,j<k->LY p j):=l;have E:Hid (Ad wr w.heap.size (.slice a p.n c) (.slice F p.hn c')):=Q;clear l Q;obtain⟨⟨y0,y1⟩,⟨I,J⟩⟩:=E.out;by_cases f:k<p.hn
  ·have P:(k:Int)<(p.hn:Int):=(by omega);have m:=M.out.2.A1 A;have r:Hid (DC wr lo hi (.slice F p.hn c') p.hn p.h):=m;obtain⟨_,a2,N,y,_,z⟩:=m;simp only[Value.slice.injEq,true_and]at y;obtain⟨rfl,rfl⟩:=y;obtain⟨b,off,rfl,_,_,R⟩:=z (by omega);have X:=R k f;clear R z;go_wp2_with fail;refine(OF _ p.n lo hi p.s _ _ (M.out.1.A1 A)).mono ?_;rintro e S ⟨⟨ps,D,rfl,v⟩,d⟩;have u:Hid (DR p.n p.s (p.h k) ps D):=v;have L:Hid (Ad S w.heap.size (.slice a p.n c) (.slice (some ⟨b,off,none⟩) p.hn c')):=E.out.A1 d;have K:Hid (DC S lo hi (.slice (some ⟨b,off,none⟩) k k) k p.h):=(r.out.A1 d).take (by omega) (by omega);have o:=A8 A d;clear v d y0 y1 I J E;by_cases C:ps=0/\D=0
   ·obtain⟨rfl,rfl⟩:=C;go_wp2;go_ret;exact⟨AJ.no fun h=>(h k f).1 u.out,o⟩
   ·have T:Hid (¬DR p.n p.s (p.h k) 0 0):=fun h=>by
     obtain⟨e0,G⟩:=u.out.uniq h;exact C ⟨e0,G⟩
    have e0:(ps == 0)=false\/(ps == 0)=true/\(D == 0)=false:=by
     by_cases h:ps=0
     ·right;refine⟨by simp[h],?_⟩;have:D≠0:=fun W=>C ⟨h,W⟩
      simp[this]
     ·left;simp[h]
    clear C;obtain⟨⟨y0,y1⟩,⟨I,J⟩⟩:=L.out;have Z:k<=c':=(by omega);by_cases B:Has k p.h (p.h k)
    ·have q:Hid (Has k p.h (p.h k)):=B;clear B;rcases e0 with e0 | ⟨e0,G⟩
     all_goals
      go_wp2_with fail;refine(Oj _ k lo hi p.h _ _ K.out).mono ?_;rintro e w2 ⟨⟨t,rfl,x⟩,rfl⟩;obtain rfl:t=true:=x.2 q.out;clear x;go_wp2;go_ret;exact⟨AJ.no fun h=>(h k f).2 q.out,o⟩
    ·have q:Hid (¬Has k p.h (p.h k)):=B;clear B;rcases e0 with e0 | ⟨e0,G⟩
     all_goals
      go_wp2_with fail;refine(Oj _ k lo hi p.h _ _ K.out).mono ?_;rintro e w2 ⟨⟨t,rfl,x⟩,rfl⟩;obtain rfl:t=false:=Bb x q.out;clear x y0 y1 I J;go_wp2;go_roundw
      case rel=>exact⟨k+1,by omega,by go_num,Bf f g.out ⟨T.out,q.out⟩,L.out,o⟩
      case measure=>simp[intOf];omega
  ·obtain rfl:k=p.hn:=(by omega);go_wp2;go_ret;exact⟨AJ.yes g.out,A⟩
theorem Z7:∀(m n:Nat) (h:Nat->Nat),(∀i,i<m->h i<n)->(∀i j,i<j->j<m->h i≠h j)->m<=n
 | 0,_,_,_,_=>Nat.zero_le _
 | m+1,0,h,hlt,_=>absurd (hlt 0 (by omega)) (Nat.not_lt_zero _)
 | m+1,n+1,h,hlt,hne=>by
  have key:=Z7 m n (fun i=>if h i<h m then h i else h i - 1) (fun i hi=>by
   have a:=hlt i (by omega);have b:=hne i m hi (by omega);have c:=hlt m (by omega);show(if h i<h m then h i else h i - 1)<n;split<;>omega) (fun i j d e=>by
   have a:=hne i j d (by omega);have b:=hne i m (by omega) (by omega);have c:=hne j m (by omega) (by omega);show(if h i<h m then h i else h i - 1)≠(if h j<h m then h j else h j - 1);split<;>split<;>omega)
  omega
variable{s:AG}
theorem XX(h:Am s):s.birth=0:=h.1
theorem zF5(h:Ku n f s)(a:¬Am s):1<=s.birth:=by
 rcases h with h | h | h
 ·exact absurd h a
 ·exact h.1.1
 ·exact h.1.1.1
variable{p:A7}
theorem XV(h:Am s\/CH p s)(a:¬Am s):1<=s.birth:=by
 rcases h with h | h
 ·exact absurd h a
 ·exact h.1.1
theorem TS{b ks kb:Int}(a:∀i,i<p.n->¬Am (p.s i)->1<=(p.s i).birth):Fk p.n p.s b ks kb ks kb↔Mn p b ks kb:=by
 constructor
 ·rintro⟨ps,o,m,h⟩;rcases h with⟨h,rfl,rfl⟩ | ⟨h,rfl,rfl⟩
  ·exact Or.inl ⟨rfl,rfl⟩
  ·rcases m with⟨d,e,f,_,g⟩ | ⟨d,rfl,rfl⟩
   ·right;have j:=a ks.toNat (by omega) f;rw[<-g]at j;refine⟨⟨j,d,e,g.symm⟩,?_⟩;by_cases c:b<kb
    ·exact absurd (Or.inr c) h
    ·omega
   ·exact absurd (Or.inl ⟨rfl,rfl⟩) h
 ·rintro(⟨rfl,rfl⟩ | ⟨⟨d,e,f,k⟩,g⟩)
  ·by_cases c:0<p.n/\¬Am (p.s 0)
   ·refine⟨0,(p.s 0).birth,Or.inl ⟨by omega,by omega,?_,rfl,rfl⟩,Or.inl ⟨Or.inl ⟨rfl,rfl⟩,rfl,rfl⟩⟩;exact c.2
   ·refine⟨0,0,Or.inr ⟨fun h=>c ⟨by omega,h.2.2⟩,rfl,rfl⟩,Or.inl ⟨Or.inl ⟨rfl,rfl⟩,rfl,rfl⟩⟩
  ·refine⟨ks,kb,Or.inl ⟨e,f,fun l=>?_,rfl,k.symm⟩,Or.inr ⟨fun h=>?_,rfl,rfl⟩⟩
   ·have:=XX l;omega
   ·rcases h with h | h
    ·have:=h.2;omega
    ·omega
theorem Ly(p:A7):zHe p↔AX p:=by
 constructor
 ·rintro⟨o,y,m,l⟩;have f:∀i,i<p.n->¬Am (p.s i)->1<=(p.s i).birth:=fun i hi=>zF5 (m i hi)
  refine⟨o,fun i hi=>?_,fun i hi=>?_⟩
  ·rcases m i hi with h | h | h
   ·exact Or.inl h
   ·exact Or.inr ⟨h.1,Or.inl h.2⟩
   ·refine Or.inr ⟨h.1.1,Or.inr ⟨h.1.2.1,h.1.2.2,fun j r=>?_⟩⟩;exact(TS f).1 (h.2 j (by have:=h.1.2.1;omega))
  ·obtain⟨t,u⟩:=l i hi;have k:0<=p.h i/\p.h i<p.n/\¬Am (p.s (p.h i).toNat):=by
    by_cases k:0<=p.h i/\p.h i<p.n/\¬Am (p.s (p.h i).toNat)
    ·exact k
    ·exact absurd (Or.inr ⟨k,rfl,rfl⟩) t
   exact⟨k.1,k.2.1,k.2.2,u⟩
 ·rintro⟨o,m,l⟩;have f:∀i,i<p.n->¬Am (p.s i)->1<=(p.s i).birth:=fun i hi=>XV (m i hi)
  refine⟨o,?_,fun i hi=>?_,fun i hi=>?_⟩
  ·refine Z7 p.hn p.n (fun i=>(p.h i).toNat) (fun i hi=>?_) (fun i j q r=>?_)
   ·obtain⟨a,b,_,_⟩:=l i hi;show(p.h i).toNat<p.n;omega
   ·obtain⟨a,b,_,d⟩:=l j r;obtain⟨v,b',_,_⟩:=l i (by omega);show(p.h i).toNat≠(p.h j).toNat;intro e;exact d ⟨i,q,by omega⟩
  ·rcases m i hi with h | h
   ·exact Or.inl h
   ·rcases h.2 with g | g
    ·exact Or.inr (Or.inl ⟨h.1,g⟩)
    ·exact Or.inr (Or.inr ⟨⟨h.1,g.1,g.2.1⟩,fun j r=>(TS f).2 (g.2.2 j (by omega))⟩)
  ·obtain⟨a,b,c,d⟩:=l i hi;refine⟨fun k=>?_,d⟩;rcases k with⟨_,_,_,w,x⟩ | ⟨k,_⟩
   ·have:=f (p.h i).toNat (by omega) c;omega
   ·exact k ⟨a,b,c⟩
theorem Rb(B v1:Value)(lo hi:Nat)(p:A7)(w:World)(D:DU w lo hi B v1 p) :
 Calls Tryz.prog 69 #[.agg #[B,v1]] w fun e w'=>AJ (AX p) e/\Below w.heap.size w w':=by
 have A:Hid (DU w lo hi B v1 p):=D;obtain⟨⟨R,a,c,rfl,X,M⟩,⟨S,z,c',rfl,T,N⟩⟩:=D;unfold maxLen at R S;clear M N;have o:Hid (Below w.heap.size w (w.alloc (.cells #[.slice a p.n c,.slice z p.hn c'] 26))):=A9 _ _;by_cases hn:(200:Int)<p.n
 ·have H:Hid (¬AX p):=fun h=>by have:=h.1;omega
  go_enter Tryz.func69,Tryz.ntmps69;go_wp2;go_ret;exact⟨AJ.no H.out,o.out⟩
 by_cases P:(p.n:Int)<p.hn
 ·have H:Hid (¬AX p):=fun h=>by have:=((Ly p).2 h).2.1;omega
  go_enter Tryz.func69,Tryz.ntmps69;go_wp2;go_ret;exact⟨AJ.no H.out,o.out⟩
 ·go_enter Tryz.func69,Tryz.ntmps69;go_wp2
  go_loopw [21] (fun i wr=>∃k:Nat,k<=p.n/\i = .int .i64 k/\(∀j,j<k->Ku p.n p.s (p.s j))/\Ad wr w.heap.size (.slice a p.n c) (.slice z p.hn c')/\Below w.heap.size w wr) (fun i _=>p.n - (intOf i).toNat)
  case atStart=>exact⟨0,Nat.zero_le _,rfl,fun j O=>absurd O (Nat.not_lt_zero _),Ad.new _ _ _ _,o.out⟩
  case round=>
   obtain⟨k,W,rfl,m,F,u⟩:=hrel;have l:Hid (∀j,j<k->Ku p.n p.s (p.s j)):=m;have y:Hid (Ad wr w.heap.size (.slice a p.n c) (.slice z p.hn c')):=F;clear m F;obtain⟨⟨y0,y1⟩,⟨J,K⟩⟩:=y.out;have Q:w.heap.size<wr.heap.size:=y.out.1.lt;by_cases r:k<p.n
   ·have E:(k:Int)<(p.n:Int):=(by omega);obtain⟨b,off,G,kc,rfl,hs⟩:=(A.out.1.A1 u).cells r;have C:Hid (Jh wr b (off+k*3) lo hi G kc (p.s k)):=hs;obtain⟨U,q1,V,_⟩:=hs;go_wp2_with fail;have f:=A9 wr (.cells #[.int .i64 (p.s k).birth,.slice G (p.s k).kn kc,.string (p.s k).data] 108);refine(zCk _ _ _ _ p.n lo hi lo hi p.s (p.s k) _ (A.out.1.A1 (A8 u f)) (C.out.slot.A1 f)).mono ?_;rintro e I ⟨⟨t,rfl,v⟩,d⟩;have q:=A8 f d;have L:Hid (Ad I w.heap.size (.slice (some ⟨b,off,none⟩) p.n c) (.slice z p.hn c')):=y.out.A1 q;have g:=A8 u q;have x:Hid (t=true↔Ku p.n p.s (p.s k)):=v;clear f d q v U q1 V y0 y1 J K y C;cases t
    ·go_wp2;go_ret;refine⟨AJ.no fun h=>?_,g⟩;have:=((Ly p).2 h).2.2.1 k r;exact absurd (x.out.2 this) (by simp)
    ·go_wp2;go_roundw
     case rel=>exact⟨k+1,by omega,by go_num,Bf r l.out (by simpa using x.out),L.out,g⟩
     case measure=>simp[intOf];omega
   ·obtain rfl:k=p.n:=(by omega);go_wp2_with fail;refine(zCX _ _ lo hi p _ (A.out.A1 u)).mono ?_;rintro e I ⟨⟨t,rfl,v⟩,d⟩;have x:Hid (t=true↔∀i,i<p.hn->LY p i):=v;have g:=A8 u d;clear v d y0 y1 J K;go_wp2;go_ret;refine⟨⟨t,rfl,x.out.trans ⟨fun h=>?_,fun h=>?_⟩⟩,g⟩
    ·exact(Ly p).1 ⟨by omega,by omega,l.out,h⟩
    ·exact((Ly p).2 h).2.2.2
theorem DR.some(n:Nat)(f:Nat->AG)(x:Int):∃ps a,DR n f x ps a:=by
 by_cases h:0<=x/\x<n/\¬Am (f x.toNat)
 ·exact⟨x,(f x.toNat).birth,Or.inl ⟨h.1,h.2.1,h.2.2,rfl,rfl⟩⟩
 ·exact⟨0,0,Or.inr ⟨h,rfl,rfl⟩⟩
theorem OC(v:Value)(n lo hi:Nat)(f:Nat->AG)(xs xb:Int)(w:World)(x:BU w lo hi v n f) :
 Calls Tryz.prog 144 #[v,.agg #[.int .i64 xs,.int .i64 xb]] w fun e w'=>AJ (¬JE xs xb 0 0/\DR n f xs xs xb) e/\Below w.heap.size w w':=by
 have t:Hid (BU w lo hi v n f):=x;obtain⟨G,a,c,rfl,H,B⟩:=x;clear B;have k:=A9 w (.cells #[.int .i64 xs,.int .i64 xb] 40);have o:Hid (Ad (w.alloc (.cells #[.int .i64 xs,.int .i64 xb] 40)) w.heap.size (.int .i64 xs) (.int .i64 xb)):=Ad.new _ _ _ _;by_cases q:xs=0/\xb=0
 ·obtain⟨rfl,rfl⟩:=q;go_enter Tryz.func144,Tryz.ntmps144;go_wp2_with fail
  go_quiet (fail)
  go_wp2;go_ret;exact⟨AJ.no fun h=>h.1 ⟨rfl,rfl⟩,Jq k _⟩
 ·have z:Hid (¬JE xs xb 0 0):=q;have e0:(xs == 0)=false\/(xs == 0)=true/\(xb == 0)=false:=by
   by_cases h:xs=0
   ·right;refine⟨by simp[h],?_⟩;have:xb≠0:=fun s=>q ⟨h,s⟩
    simp[this]
   ·left;simp[h]
  clear q;obtain⟨d,i,u⟩:=DR.some n f xs;have m:Hid (DR n f xs d i):=u;clear u;by_cases p:xs=d/\xb=i
  ·obtain⟨rfl,rfl⟩:=p;rcases e0 with e0 | ⟨e0,A⟩
   all_goals
    go_enter Tryz.func144,Tryz.ntmps144;go_wp2_with fail;go_region_held3 (fun w'=>w'.cell? ⟨w.heap.size,0,none⟩=some (.int .i64 xs)/\w'.cell? ⟨w.heap.size,1,none⟩=some (.int .i64 xb)) (go_keep)
     (first | (go_at_call 160;refine(OF _ n lo hi f _ _ ?_).mono ?_;(exact(t.out.A1 k).A1 ((Below.refl _ _).drew));rintro e E ⟨⟨ps,C,rfl,l⟩,g⟩;obtain⟨rfl,rfl⟩:=m.out.uniq l;clear l;have b:=Cs g;have z0:=(o.out.A1 b).1.1;have z1:=(o.out.A1 b).2.1))
    have j:=A8 k b;clear g b z0 z1;go_wp2;go_ret;exact⟨AJ.yes ⟨z.out,m.out⟩,j⟩
  ·have y:Hid (¬(xs=d/\xb=i)):=p;have r:(xs == d)=false\/(xs == d)=true/\(xb == i)=false:=by
    by_cases h:xs=d
    ·right;refine⟨by simp[h],?_⟩;have:xb≠i:=fun s=>p ⟨h,s⟩
     simp[this]
    ·left;simp[h]
   clear p;rcases e0 with e0 | ⟨e0,A⟩
   all_goals
    rcases r with r | ⟨r,F⟩
    all_goals
     go_enter Tryz.func144,Tryz.ntmps144;go_wp2_with fail;go_region_held3 (fun w'=>w'.cell? ⟨w.heap.size,0,none⟩=some (.int .i64 xs)/\w'.cell? ⟨w.heap.size,1,none⟩=some (.int .i64 xb)) (go_keep)
      (first | (go_at_call 160;refine(OF _ n lo hi f _ _ ?_).mono ?_;(exact(t.out.A1 k).A1 ((Below.refl _ _).drew));rintro e E ⟨⟨ps,C,rfl,l⟩,g⟩;obtain⟨rfl,rfl⟩:=m.out.uniq l;clear l;have b:=Cs g;have z0:=(o.out.A1 b).1.1;have z1:=(o.out.A1 b).2.1))
     have j:=A8 k b;clear g b z0 z1;go_wp2;go_ret;refine⟨AJ.no fun h=>?_,j⟩;obtain⟨D,q1⟩:=h.2.uniq m.out;exact y.out ⟨D,q1⟩
variable{xs xb:Int}
theorem OD(j:AX p):(¬JE xs xb 0 0/\DR p.n p.s xs xs xb)↔BA p xs xb:=by
 constructor
 ·rintro⟨h,f | ⟨_,g,i⟩⟩
  ·obtain⟨a,b,c,_,e⟩:=f;have:=XV (j.2.1 xs.toNat (by omega)) c;exact⟨by omega,a,b,e.symm⟩
  ·exact absurd ⟨g,i⟩ h
 ·rintro⟨a,b,c,d⟩;refine⟨fun h=>by have:=h.2;omega,Or.inl ⟨b,c,fun k=>?_,rfl,d.symm⟩⟩;have:=XX k;omega
def Nil(xs xb:Int):Prop:=xs=0/\xb=0
instance (xs xb:Int):Decidable (Nil xs xb):=inferInstanceAs (Decidable (xs=0/\xb=0))
def one(xs xb:Int):List (Int×Int):=if Nil xs xb then [] else [(xs,xb)]
def kidsUp(ks kb:Nat->Int):Nat->List (Int×Int)
 | 0=>[]
 | k+1=>kidsUp ks kb k ++ one (ks k) (kb k)
def AL(s:AG)(i:Nat):Int:=B7 s (i*2)
def AW(s:AG)(i:Nat):Int:=B7 s (i*2+1)
def Gm(s:AG):List (Int×Int):=kidsUp (AL s) (AW s) 8
def DA(p:A7)(xs xb:Int):List (Int×Int):=if Nil xs xb then [] else(xs,xb) :: Gm (p.s xs.toNat)
def CV(p:A7)(s:AG):Nat->List (Int×Int)
 | 0=>[]
 | k+1=>CV p s k ++ DA p (AL s k) (AW s k)
def AE(p:A7)(rs rb:Int):List (Int×Int):=if Nil rs rb then [] else(rs,rb) :: CV p (p.s rs.toNat) 8
variable{i:Nat}
theorem Fi(h:s.kn=8)(hi:i<8):AL s i=s.ks i:=by
 unfold AL B7;rw[show i*2 / 2=i by omega,if_pos (by omega),if_pos (by omega)]
theorem Fh(h:s.kn=8)(hi:i<8):AW s i=s.kb i:=by
 unfold AW B7;rw[show(i*2+1) / 2=i by omega,if_pos (by omega),if_neg (by omega)]
theorem TR(h:s.kn=0)(i:Nat):AL s i=0:=by
 unfold AL B7;rw[if_neg (by omega)]
theorem TQ(h:s.kn=0)(i:Nat):AW s i=0:=by
 unfold AW B7;rw[if_neg (by omega)]
variable{x:Int×Int}
theorem zFv:x∈one xs xb↔x=(xs,xb)/\¬Nil xs xb:=by
 unfold one;by_cases h:Nil xs xb
 ·rw[if_pos h];simp[h]
 ·rw[if_neg h];simp[h]
theorem M9{ks kb:Nat->Int}{x:Int×Int}:∀{k:Nat},x∈kidsUp ks kb k↔∃i,i<k/\x=(ks i,kb i)/\¬Nil (ks i) (kb i)
 | 0=>by simp[kidsUp]
 | k+1=>by
  rw[kidsUp,List.mem_append,M9,zFv];constructor
  ·rintro(⟨i,hi,h⟩ | h)
   ·exact⟨i,by omega,h⟩
   ·exact⟨k,by omega,h⟩
  ·rintro⟨i,hi,h⟩;by_cases e:i=k
   ·subst e;exact Or.inr h
   ·exact Or.inl ⟨i,by omega,h⟩
theorem KS:x∈DA p xs xb↔¬Nil xs xb/\(x=(xs,xb)\/x∈Gm (p.s xs.toNat)):=by
 unfold DA;by_cases h:Nil xs xb
 ·rw[if_pos h];simp[h]
 ·rw[if_neg h];simp[h]
theorem Km{p:A7}{s:AG}{x:Int×Int}:∀{k:Nat},x∈CV p s k↔∃i,i<k/\x∈DA p (AL s i) (AW s i)
 | 0=>by simp[CV]
 | k+1=>by
  rw[CV,List.mem_append,Km];constructor
  ·rintro(⟨i,hi,h⟩ | h)
   ·exact⟨i,by omega,h⟩
   ·exact⟨k,by omega,h⟩
  ·rintro⟨i,hi,h⟩;by_cases e:i=k
   ·subst e;exact Or.inr h
   ·exact Or.inl ⟨i,by omega,h⟩
theorem Iw(a kb:Nat->Int):∀k,(kidsUp a kb k).length<=k
 | 0=>Nat.le_refl _
 | k+1=>by
  have:=Iw a kb k;unfold kidsUp one;split<;>simp<;>omega
theorem U0(p:A7)(xs xb:Int):(DA p xs xb).length<=9:=by
 unfold DA;have:=Iw (AL (p.s xs.toNat)) (AW (p.s xs.toNat)) 8;split
 ·simp
 ·show(Gm _).length+1<=9;unfold Gm;omega
theorem OI(p:A7)(s:AG):∀k,(CV p s k).length<=9*k
 | 0=>Nat.le_refl _
 | k+1=>by
  have:=OI p s k;have:=U0 p (AL s k) (AW s k);unfold CV;rw[List.length_append];omega
theorem D7(p:A7)(rs rb:Int):(AE p rs rb).length<=73:=by
 unfold AE;have:=OI p (p.s rs.toNat) 8;split
 ·simp
 ·show(CV _ _ _).length+1<=73;omega
def JT(p:A7)(xs xb:Int):Prop:=BA p xs xb/\0<(p.s xs.toNat).kn/\¬Has p.hn p.h xs
def LQ(p:A7)(xs xb:Int):Prop:=BA p xs xb/\(p.s xs.toNat).kn=0/\¬Has p.hn p.h xs
def Zj(p:A7)(s:AG):Prop:=(∀i,i<8->Nil (AL s i) (AW s i)\/LQ p (AL s i) (AW s i))/\∃i,i<8/\¬Nil (AL s i) (AW s i)
def KE(p:A7)(s:AG)(i:Nat):Prop:=Nil (AL s i) (AW s i)\/(JT p (AL s i) (AW s i)/\Zj p (p.s (AL s i).toNat))
def Dm(l:List (Int×Int)):List Int:=l.map Prod.fst
def Zo(p:A7)(s:AG):Prop:=(∀i,i<8->KE p s i)/\∃i,i<8/\¬Nil (AL s i) (AW s i)
def An(p:A7)(rs rb:Int):Prop:=Nil rs rb\/(JT p rs rb/\Zo p (p.s rs.toNat)/\(Dm (AE p rs rb)).Nodup)
def BO(p:A7)(rs rb:Int):Prop:=AX p/\An p rs rb
def ND(p:A7)(s:AG):Prop:=(∃i,i<8/\¬Nil (AL s i) (AW s i))/\∀i,i<8->Nil (AL s i) (AW s i)\/FJ (p.s (AL s i).toNat)
def NC(p:A7)(s:AG):Prop:=(∃i,i<8/\¬Nil (AL s i) (AW s i))/\∀i,i<8->Nil (AL s i) (AW s i)\/ND p (p.s (AL s i).toNat)
def Rh(p:A7)(l:List (Int×Int)):Prop:=l.Nodup/\∀x,x∈l->¬Has p.hn p.h x.1
def Ps(p:A7)(rs rb:Int):Prop:=Nil rs rb\/(BA p rs rb/\NC p (p.s rs.toNat)/\Rh p (AE p rs rb))
theorem Ep(b:AX p)(h:BA p xs xb):CH p (p.s xs.toNat):=by
 obtain⟨c,d,e,f⟩:=h;rcases b.2.1 xs.toNat (by omega)with a | a
 ·have:=a.1;omega
 ·exact a
theorem KM(h:CH p s):s.kn=0\/s.kn=8:=by
 rcases h.2 with h | h
 ·exact Or.inl h.1
 ·exact Or.inr h.1
theorem R1(a:AX p)(h:BA p xs xb):(p.s xs.toNat).kn=0\/(p.s xs.toNat).kn=8:=KM (Ep a h)
theorem Iv(h:CH p s)(hi:i<8)(hn:¬Nil (AL s i) (AW s i)):BA p (AL s i) (AW s i)/\AW s i<=s.birth:=by
 rcases h.2 with a | a
 ·exact absurd ⟨TR a.1 i,TQ a.1 i⟩ hn
 ·rw[Fi a.1 hi,Fh a.1 hi]at hn ⊢;rcases a.2.2 i (by omega)with b | b
  ·exact absurd b hn
  ·exact b
theorem zFB(c:AX p)(h:BA p xs xb):FJ (p.s xs.toNat)↔(p.s xs.toNat).kn=0:=by
 have b:=Ep c h;constructor
 ·exact fun h=>h.2.1
 ·intro d;rcases b.2 with a | a
  ·exact⟨b.1,a⟩
  ·omega
theorem UI(h:s.kn=0\/s.kn=8)(a:∃i,i<8/\¬Nil (AL s i) (AW s i)):s.kn=8:=by
 rcases h with h | h
 ·obtain⟨i,_,hi⟩:=a;exact absurd ⟨TR h i,TQ h i⟩ hi
 ·exact h
theorem Of(k:AX p)(h:BA p rs rb):∀x,x∈AE p rs rb->BA p x.1 x.2/\x.2<=rb:=by
 intro x a;unfold AE at a;split at a
 ·simp at a
 ·rw[List.mem_cons,Km]at a;rcases a with rfl | ⟨i,hi,a⟩
  ·exact⟨h,by simp⟩
  ·have l:=Ep k h;have d:(p.s rs.toNat).birth=rb:=h.2.2.2;obtain⟨hn,a⟩:=KS.1 a;have b:=Iv l hi hn;rcases a with rfl | a
   ·exact⟨b.1,by rw[<-d];exact b.2⟩
   ·obtain⟨j,m,rfl,g⟩:=M9.1 a;have f:=Ep k b.1;have c:=Iv f m g;have e:(p.s (AL (p.s rs.toNat) i).toNat).birth=AW (p.s rs.toNat) i:=b.1.2.2.2;have:=b.2;have:=c.2;exact⟨c.1,by show AW _ j<=rb;omega⟩
theorem Qx{l:List (Int×Int)}(h:∀x,x∈l->BA p x.1 x.2):(Dm l).Nodup↔l.Nodup:=by
 unfold Dm List.Nodup;rw[List.pairwise_map];constructor
 ·exact fun f=>f.imp (fun c e=>c (by rw[e]))
 ·intro f;refine List.Pairwise.imp_of_mem ?_ f;intro a b i j c e;apply c;have d:=(h a i).2.2.2;have g:=(h b j).2.2.2;rw[e]at d;obtain⟨k,m⟩:=a;obtain⟨n,o⟩:=b;simp only[Prod.mk.injEq];exact⟨e,by simp only at d g e;rw[<-d,<-g]⟩
theorem Q8(f:AX p):Ps p rs rb↔An p rs rb:=by
 by_cases g:Nil rs rb
 ·exact⟨fun _=>Or.inl g,fun _=>Or.inl g⟩
 have e:(rs,rb)∈AE p rs rb:=by unfold AE;rw[if_neg g];simp
 have m:∀i,i<8->¬Nil (AL (p.s rs.toNat) i) (AW (p.s rs.toNat) i)->(AL (p.s rs.toNat) i,AW (p.s rs.toNat) i)∈AE p rs rb:=fun i hi hn=>by
  unfold AE;rw[if_neg g,List.mem_cons,Km];exact Or.inr ⟨i,hi,KS.2 ⟨hn,Or.inl rfl⟩⟩
 have n:∀i,i<8->¬Nil (AL (p.s rs.toNat) i) (AW (p.s rs.toNat) i)->∀x,x∈Gm (p.s (AL (p.s rs.toNat) i).toNat)->x∈AE p rs rb:=fun i hi hn x a=>by
  unfold AE;rw[if_neg g,List.mem_cons,Km];exact Or.inr ⟨i,hi,KS.2 ⟨hn,Or.inr a⟩⟩
 constructor
 ·rintro(h | ⟨c,⟨q,E⟩,o⟩)
  ·exact Or.inl h
  ·right;have u:=Ep f c;have F:=UI (KM u) q;refine⟨⟨c,by omega,o.2 _ e⟩,⟨fun i hi=>?_,q⟩,(Qx (fun x a=>(Of f c x a).1)).2 o.1⟩;by_cases hn:Nil (AL (p.s rs.toNat) i) (AW (p.s rs.toNat) i)
   ·exact Or.inl hn
   ·right;have A:=Iv u hi hn;have l:=Ep f A.1;obtain⟨k,t⟩:ND p (p.s (AL (p.s rs.toNat) i).toNat):=by
     rcases E i hi with h | h
     ·exact absurd h hn
     ·exact h
    have B:=UI (KM l) k;refine⟨⟨A.1,by omega,o.2 _ (m i hi hn)⟩,fun j d=>?_,k⟩;by_cases b:Nil (AL (p.s (AL (p.s rs.toNat) i).toNat) j) (AW (p.s (AL (p.s rs.toNat) i).toNat) j)
    ·exact Or.inl b
    ·right;have v:=Iv l d b;refine⟨v.1,?_,o.2 _ (n i hi hn _ (M9.2 ⟨j,d,rfl,b⟩))⟩;rcases t j d with h | h
     ·exact absurd h b
     ·exact h.2.1
 ·rintro(h | ⟨z,⟨y,q⟩,D⟩)
  ·exact Or.inl h
  ·right;have c:=z.1;have u:=Ep f c;have held:∀x,x∈AE p rs rb->¬Has p.hn p.h x.1:=fun x a=>by
    unfold AE at a;rw[if_neg g,List.mem_cons,Km]at a;rcases a with rfl | ⟨i,hi,a⟩
    ·exact z.2.2
    ·obtain⟨hn,a⟩:=KS.1 a;rcases y i hi with h | ⟨w,r⟩
     ·exact absurd h hn
     ·rcases a with rfl | a
      ·exact w.2.2
      ·obtain⟨j,d,rfl,b⟩:=M9.1 a;rcases r.1 j d with h | h
       ·exact absurd h b
       ·exact h.2.2
   refine⟨c,⟨q,fun i hi=>?_⟩,(Qx (fun x a=>(Of f c x a).1)).1 D,held⟩;rcases y i hi with h | ⟨w,r,C⟩
   ·exact Or.inl h
   ·refine Or.inr ⟨C,fun j d=>?_⟩;rcases r j d with h | h
    ·exact Or.inl h
    ·exact Or.inr ((zFB f h.1).2 h.2.1)
end Go.Proofs.YtnfjcaoclahfjaaGreatDoor
