/- A part of the proof. -/
import Derived.Test.YtmgeglgboadfiaaGreatDoorU1
import Derived.Laws.CopyOwn
import Derived.Deep.RegionLaw
import Derived.Deep.WholeRow
import Derived.RegionTactic
import Derived.ChangeAlike
import Derived.BigRegion
import Derived.Maps.OwnSet
import Derived.Deep.RegionHeld
set_option linter.unusedVariables false
set_option maxRecDepth 20000
set_option maxHeartbeats 4000000
namespace Go.Proofs.YtmgeglgboadfiaaGreatDoor
open Go.RowKit
theorem zGx{P:Program}(w:World)(dT sT ty elem:TypeId)(size g o aA dA:Nat)(a:Addr)(bA gA:Nat)(cA:Array Value)(t:TypeId)(cs:List Value)
  (hu:P.underlying dT=some (.slice elem)) (hs:(P.info? elem).map (·.size)=some size)
  (hg:w.heap[g]?=some (.cells cA t (0,0))) (hn:cs.length=Nat.min bA aA*size)
  (fA:∀j v,cs[j]?=some v->w.cell? (a.add j)=some v) (eA:o+cs.length<=cA.size) (h1:∀v∈cs,v.oneCell'=true) :
  (Builtin.copy_ #[dT,sT] ty #[.slice (some ⟨g,o,none⟩) aA dA,.slice (some a) bA gA]).run P w =
   .ok (goInt (Nat.min bA aA)) (w.setRow g (cA.toList.take o ++ cs ++ cA.toList.drop (o+cs.length)).toArray):=by
 have hl:=run_loadCells_list (P:=P) w a cs fA;have iA:=run_storeCells_at P g o t cs 0 cA w hg (by simpa using eA) h1;cases hq:P.info? elem with
 | none=>simp[hq]at hs
 | some i=>
  have hi:i.size=size:=(by simpa[hq]using hs);have e:Nat.min bA aA*i.size=cs.length:=(by rw[hi,hn]);simp[Builtin.copy_,run_underlying hu,Builtin.lenOf,Builtin.firstCells,sizeOf,typeInfo,hq,e,hl,iA]
theorem zHm{P:Program}(w:World)(dT sT ty elem:TypeId)(size:Nat)(d a:Option Addr)(bA aA cA:Nat)
  (hu:P.underlying dT=some (.slice elem)) (hs:(P.info? elem).map (·.size)=some size) :
  (Builtin.copy_ #[dT,sT] ty #[.slice d bA aA,.slice a 0 cA]).run P w = .ok (goInt 0) w:=by
 cases hq:P.info? elem with
 | none=>simp[hq]at hs
 | some i=>
  cases a with
  | none=>cases d<;>simp[Builtin.copy_,run_underlying hu,Builtin.lenOf,Builtin.firstCells,sizeOf,typeInfo,hq,storeCells]
  | some a=>cases d<;>simp[Builtin.copy_,run_underlying hu,Builtin.lenOf,Builtin.firstCells,sizeOf,typeInfo,hq,storeCells,loadCells,loadCellsFrom]
def zl(s:zO)(j:Nat):Int:=if j / 2<s.kn then(if j % 2=0 then s.ks (j / 2)else s.kb (j / 2))else 0
def qg(f:Nat->Int):Array Value:=((List.range 16).map fun j=>Value.int .i64 (f j)).toArray
def qJ(s:zO):Array Value:=qg (zl s)
theorem qY(f:Nat->Int):(qg f).size=16:=by simp[qg]
theorem zAx(f:Nat->Int){j:Nat}(h:j<16):(qg f)[j]?=some (.int .i64 (f j)):=by simp[qg,h]
theorem zBg(f:Nat->Int):(qg f).all (·.oneCell')=true:=by
 unfold qg;rw[Array.all_eq_true_iff_forall_mem];intro v hv;simp at hv;obtain⟨j,_,rfl⟩:=hv;rfl
theorem zMB{f g:Nat->Int}(h:∀j,j<16->f j=g j):qg f=qg g:=by
 unfold qg;congr 1;apply List.map_congr_left;intro j hj;rw[h j (by simpa using hj)]
theorem zEv:(Tryz.prog.info? 155).map (·.size)=some 16:=by kernel_rfl
theorem zFo:(Tryz.prog.info? 61).map (·.size)=some 2:=by kernel_rfl
theorem zJY:Tryz.prog.underlying 155=some (.array 8 61):=by kernel_rfl
theorem zKZ(w:World)(o1 o2 o3:Obj):(((w.alloc o1).alloc o2).alloc o3).heap[w.heap.size+1]?=some o2/\(((w.alloc o1).alloc o2).alloc o3).heap[w.heap.size+1+1]?=some o3/\w.heap.size+1+1<(((w.alloc o1).alloc o2).alloc o3).heap.size:=by
 refine⟨?_,?_,by simp⟩
 ·rw[Below.heap_alloc _ _ _ (by simp)];have:=heap_alloc_last (w.alloc o1) o2;rw[World.size_alloc]at this;exact this
 ·have:=heap_alloc_last ((w.alloc o1).alloc o2) o3;rw[World.size_alloc,World.size_alloc]at this;exact this
theorem zF.setRow(w:World)(g:Nat)(cs:Array Value):zF (fun k=>k=g) w (w.setRow g cs):=
 ⟨rfl,rfl,rfl,by simp[World.setRow],fun k _ hs=>setRow_other w g k cs hs⟩
theorem zHE{eA:Array Oper}{o:Oper}{a:Act}{w:World}{K:Act->World->Prop}{Q:Exit->Act->World->Prop}{E:Prop}(fA:o.guard=none)(d s:Operand)
  (ho:o.op = .call {callee:=.builtin .copy,args:=#[d,s],argTypes:=#[62,62]})
  (g:Nat) (ka:Option Addr) (kc:Nat) (sl:zO) (hd:a.eval d = .slice (some ⟨g,0,none⟩) 8 8) (hs:a.eval s = .slice ka sl.kn kc)
  (hg:w.heap[g]?=some (.cells (qg fun _=>0) 155 (0,0))) (hk:sl.kn=0\/(sl.kn=8/\∃b off,ka=some ⟨b,off,none⟩/\∀i,i<sl.kn->w.cell? ⟨b,off+i*2,none⟩=some (.int .i64 (sl.ks i))/\w.cell? ⟨b,off+i*2+1,none⟩=some (.int .i64 (sl.kb i))))
  (h:∀w' v,Hid (w'.heap[g]?=some (.cells (qJ sl) 155 (0,0)))->zF (fun k=>k=g) w w'->K (a.put o.dst v) w') :
  if Region.wanted o (yielded eA a.tmps)=true then Oper.wp Tryz.prog o a w K Q else E:=by
 have hw:Region.wanted o (yielded eA a.tmps)=true:=by simp[Region.wanted,fA]
 rw[if_pos hw];have hu:Tryz.prog.underlying 62=some (.slice 61):=by kernel_rfl
 rcases hk with hk | ⟨hk,b,off,rfl,hc⟩
 ·rw[hk]at hs;have aA:=zHm (P:=Tryz.prog) w 62 62 o.type 61 2 (some ⟨g,0,none⟩) ka 8 8 kc hu zFo;unfold Oper.wp;simp[execOp,ho,resolve,invoke,builtin,hd,hs,aA,Result.andThen];refine h _ _ ?_ (zF.refl _ _);show _=_;rw[hg];have:qJ sl=qg (fun _=>0):=zMB fun j _=>by unfold zl;rw[if_neg (by omega)]
  rw[this]
 ·rw[hk]at hs;have aA:=zGx (P:=Tryz.prog) w 62 62 o.type 61 2 g 0 8 8 ⟨b,off,none⟩ 8 kc (qg fun _=>0) 155 (qJ sl).toList hu zFo hg (by simp[qJ,qg]) (fun j v hj=>by
    have cA:j<16:=by
     have:=(List.getElem?_eq_some_iff.1 hj).1;simpa[qJ,qY]using this
    have e:(qJ sl).toList[j]?=some (.int .i64 (zl sl j)):=(by rw[Array.getElem?_toList];exact zAx (zl sl) cA);rw[e]at hj;simp only[Option.some.injEq]at hj;subst hj;have bA:(⟨b,off,none⟩:Addr).add j=⟨b,off+j,none⟩:=(by unfold Addr.add;split<;>simp_all);rw[bA];unfold zl;rw[if_pos (by omega)];have dA:=hc (j / 2) (by omega);split
    ·rw[show off+j=off+j / 2*2 by omega];exact dA.1
    ·rw[show off+j=off+j / 2*2+1 by omega];exact dA.2) (by simp[qJ,qg]) (fun v hv=>(Array.all_eq_true_iff_forall_mem.1 (zBg _)) v (by simpa[qJ]using hv))
  unfold Oper.wp;simp[execOp,ho,resolve,invoke,builtin,hd,hs,aA,Result.andThen];refine h _ _ ?_ (zF.setRow _ _ _);show _=_;rw[setRow_heap w g _ _ 155 (0,0) hg];have e0:((qg fun _=>0).toList.drop 16) = []:=List.drop_eq_nil_of_le (by simp[qg]);simp[qJ,qY,e0]
theorem zER(v0 v1 v2:Value)(lo hi:Nat)(s:zO)(w:World)(h1:qT w lo hi v0 v1 v2 s)(hk:s.kn=0\/s.kn=8) :
  Calls Tryz.prog 162 #[.agg #[v0,v1,v2]] w fun e w'=>e = .returned (.agg (qJ s))/\Below w.heap.size w w':=by
 obtain⟨rfl,⟨m1,a,c,rfl,mc,g1⟩,rfl,m2⟩:=h1;unfold maxLen at m1 m2;have G1:Hid (0<s.kn->∃b off,a=some ⟨b,off,none⟩/\lo<=b/\b<hi/\∀i,i<s.kn->w.cell? ⟨b,off+i*2,none⟩=some (.int .i64 (s.ks i))/\w.cell? ⟨b,off+i*2+1,none⟩=some (.int .i64 (s.kb i))):=g1;have Hk:Hid (s.kn=0\/s.kn=8):=hk;clear g1 hk;go_enter Tryz.func162,Tryz.ntmps162;go_wp2_with fail;obtain⟨W,hW⟩:∃W:World,W=((w.alloc (.cells #[.int .i64 s.zPI,.slice a s.kn c,.string s.data] 127)).alloc (.cells #[Value.int .i64 0,Value.int .i64 0,Value.int .i64 0,Value.int .i64 0,Value.int .i64 0,Value.int .i64 0,Value.int .i64 0,Value.int .i64 0,Value.int .i64 0,Value.int .i64 0,Value.int .i64 0,Value.int .i64 0,Value.int .i64 0,Value.int .i64 0,Value.int .i64 0,Value.int .i64 0] 155)).alloc (.cells #[Value.int .i64 0,Value.int .i64 0,Value.int .i64 0,Value.int .i64 0,Value.int .i64 0,Value.int .i64 0,Value.int .i64 0,Value.int .i64 0,Value.int .i64 0,Value.int .i64 0,Value.int .i64 0,Value.int .i64 0,Value.int .i64 0,Value.int .i64 0,Value.int .i64 0,Value.int .i64 0] 155):=⟨_,rfl⟩;have jA:(#[Value.int .i64 0,Value.int .i64 0,Value.int .i64 0,Value.int .i64 0,Value.int .i64 0,Value.int .i64 0,Value.int .i64 0,Value.int .i64 0,Value.int .i64 0,Value.int .i64 0,Value.int .i64 0,Value.int .i64 0,Value.int .i64 0,Value.int .i64 0,Value.int .i64 0,Value.int .i64 0]:Array Value)=qg (fun _=>0):=rfl;have hb:Below w.heap.size w W:=by rw[hW];exact zA (zA (zC _ _) (zC _ _)) (zC _ _)
 have Hx:Hid (yX W w.heap.size (.int .i64 s.zPI) (.slice a s.kn c) (.string s.data)):=by rw[hW];exact((yX.new w _ _ _ _).zO9 (zC _ _)).zO9 (zC _ _)
 have bA:=zKZ w (.cells #[.int .i64 s.zPI,.slice a s.kn c,.string s.data] 127) (.cells #[Value.int .i64 0,Value.int .i64 0,Value.int .i64 0,Value.int .i64 0,Value.int .i64 0,Value.int .i64 0,Value.int .i64 0,Value.int .i64 0,Value.int .i64 0,Value.int .i64 0,Value.int .i64 0,Value.int .i64 0,Value.int .i64 0,Value.int .i64 0,Value.int .i64 0,Value.int .i64 0] 155) (.cells #[Value.int .i64 0,Value.int .i64 0,Value.int .i64 0,Value.int .i64 0,Value.int .i64 0,Value.int .i64 0,Value.int .i64 0,Value.int .i64 0,Value.int .i64 0,Value.int .i64 0,Value.int .i64 0,Value.int .i64 0,Value.int .i64 0,Value.int .i64 0,Value.int .i64 0,Value.int .i64 0] 155);rw[<-hW]at bA;have HR:Hid (W.heap[w.heap.size+1]?=some (.cells (qg fun _=>0) 155 (0,0))):=bA.1;have HG:Hid (W.heap[w.heap.size+1+1]?=some (.cells (qg fun _=>0) 155 (0,0))):=bA.2.1;have kA:w.heap.size+1+1<W.heap.size:=bA.2.2;clear bA;have HC:Hid (s.kn=0\/(s.kn=8/\∃b off,a=some ⟨b,off,none⟩/\∀i,i<s.kn->W.cell? ⟨b,off+i*2,none⟩=some (.int .i64 (s.ks i))/\W.cell? ⟨b,off+i*2+1,none⟩=some (.int .i64 (s.kb i)))):=by
  rcases Hk.out with h | h
  ·exact Or.inl h
  ·obtain⟨b,off,ha,_,_,k1⟩:=G1.out (by omega);exact Or.inr ⟨h,b,off,ha,fun i hi=>⟨(hb.cell (zD (k1 i hi).1)).trans (k1 i hi).1,(hb.cell (zD (k1 i hi).2)).trans (k1 i hi).2⟩⟩
 rw[<-hW];clear hW jA;obtain⟨⟨x0,x1⟩,⟨x2,x3⟩,⟨x4,x5⟩⟩:=Hx.out
 go_region_law (refine zHE rfl (.tmp 4) (.tmp 6) rfl (w.heap.size+1+1) a c s (by simp[Act.eval]) (by simp[Act.eval]) HG.out HC.out ?_;intro w1 cv gA dA)
 have fA:w1.heap[w.heap.size+1]?=some (.cells (qg fun _=>0) 155 (0,0)):=(dA.block _ (by show _<W.heap.size;omega) (by omega)).trans HR.out;have eA:Hid (w1.heap[w.heap.size+1]?=some (.cells (qg fun _=>0) 155 (0,0))):=fA;have iA:Below w.heap.size w w1:=hb.drew.trans (dA.zO9 (by show _<=W.heap.size;omega) (by intro k hk;omega));clear fA dA x0 x1 x2 x3 x4 x5;have cA:(Tryz.prog.info? 155).map (·.size)=some (qJ s).size:=by rw[qJ,qY];exact zEv
 have aA:Hid ((Tryz.prog.info? 155).map (·.size)=some (qJ s).size):=cA;clear cA;go_wp2_with (first
  | (refine wpList_load_row rfl 155 (.tmp 3) rfl (w.heap.size+1+1) rfl 155 (qJ s) (0,0) _ gA.out zJY rfl aA.out ?_)
  | (refine wpList_store_row rfl 155 (.tmp 2) (.tmp 8) rfl (w.heap.size+1) (qJ s) rfl rfl 155 (qg fun _=>0) eA.out aA.out (by rw[qJ,qY,qY]) (zBg _) ?_))
 refine bodyPost_ret (v:=.agg (qJ s)) (results_cell_row (P:=Tryz.prog) (ty:=155) Tryz.results162 _ _ (w.heap.size+1) 155 (qJ s) (0,0) _ rfl (setRow_heap _ _ _ _ _ _ eA.out) zJY rfl aA.out) rfl ⟨rfl,?_⟩;exact below_setRow iA (by omega) _
def zAC(n:Nat)(f:Nat->zO)(b ks kb rs rb:Int):Prop:=
 ∃ps pb,zAs n f ks ps pb/\(((zBd ks kb 0 0\/b<pb)/\rs=0/\rb=0)\/(¬(zBd ks kb 0 0\/b<pb)/\rs=ps/\rb=pb))
theorem zIw(v:Value)(n lo hi:Nat)(f:Nat->zO)(ks kb b:Int)(w:World)(h1:qG w lo hi v n f) :
  Calls Tryz.prog 221 #[v,.agg #[.int .i64 ks,.int .i64 kb],.int .i64 b] w fun e w'=>(∃rs rb,e = .returned (.agg #[.int .i64 rs,.int .i64 rb])/\zAC n f b ks kb rs rb)/\Below w.heap.size w w':=by
 have Hi:Hid (qG w lo hi v n f):=h1;obtain⟨m1,a,c,rfl,mc,g1⟩:=h1;clear g1;have eA:Hid (Below w.heap.size w ((w.alloc (.cells #[.int .i64 ks,.int .i64 kb] 61)).alloc (.cells #[.int .i64 0,.int .i64 0] 61))):=zA (zC _ _) (zC _ _);go_enter Tryz.func221,Tryz.ntmps221;go_wp2_with fail;refine(zDu _ n lo hi f _ _ (Hi.out.zO9 eA.out)).mono ?_;rintro e w1 ⟨⟨ps,pb,rfl,hp⟩,bA⟩;have Hp:Hid (zAs n f ks ps pb):=hp;have HX:Hid (zp w1 w.heap.size (.int .i64 ks) (.int .i64 kb)):=((zp.new w _ _ _).zO9 (zC _ _)).zO9 bA;have HR:Hid (zp w1 (w.heap.size+1) (.int .i64 0) (.int .i64 0)):=by
  have:=(zp.new (w.alloc (.cells #[.int .i64 ks,.int .i64 kb] 61)) (.int .i64 0) (.int .i64 0) 61).zO9 bA;rw[World.size_alloc]at this;exact this
 have gA:=zA eA.out bA;have hz:w.heap.size<w1.heap.size:=HX.out.1.lt;have iA:w.heap.size+1<w1.heap.size:=HR.out.1.lt;clear hp bA;obtain⟨⟨x0,x1⟩,⟨x2,x3⟩⟩:=HX.out;obtain⟨⟨y0,y1⟩,⟨y2,y3⟩⟩:=HR.out;have HY:=fun u0 u1=>(HR.out.put u0 u1).zO9 (zC _ (.cells #[.int .i64 ps,.int .i64 pb] 61))
 have dA:Hid (∀u0 u1,zp (((w1.setCell ⟨w.heap.size+1,0,none⟩ u0).setCell ⟨w.heap.size+1,1,none⟩ u1).alloc (.cells #[.int .i64 ps,.int .i64 pb] 61)) (w.heap.size+1) u0 u1):=HY;clear HY;have cA:Hid (∀u0 u1,Below w.heap.size w (((w1.setCell ⟨w.heap.size+1,0,none⟩ u0).setCell ⟨w.heap.size+1,1,none⟩ u1).alloc (.cells #[.int .i64 ps,.int .i64 pb] 61))):=fun u0 u1=>((gA.setCell (by show _<=w.heap.size+1;omega) _).setCell (by show _<=w.heap.size+1;omega) _).alloc (by simp;omega) _
 by_cases aA:zBd ks kb 0 0
 ·obtain⟨rfl,rfl⟩:=aA;have HK:Hid (zAC n f b 0 0 0 0):=⟨ps,pb,Hp.out,Or.inl ⟨Or.inl ⟨rfl,rfl⟩,rfl,rfl⟩⟩;go_wp2;have hy:=dA.out (.int .i64 0) (.int .i64 0);refine bodyPost_ret (v:=.agg #[.int .i64 0,.int .i64 0]) (by simp[results,Tryz.results221,go_sem,hy.1.1,hy.2.1]) rfl ⟨⟨_,_,rfl,HK.out⟩,cA.out _ _⟩
 ·have HN:Hid (¬zBd ks kb 0 0):=aA;have e0:(ks == 0)=false\/(ks == 0)=true/\(kb == 0)=false:=by
   by_cases h:ks=0
   ·right;refine⟨by simp[h],?_⟩;have:kb≠0:=fun h'=>aA ⟨h,h'⟩
    simp[this]
   ·left;simp[h]
  clear aA;by_cases fA:b<pb
  ·have HK:Hid (zAC n f b ks kb 0 0):=⟨ps,pb,Hp.out,Or.inl ⟨Or.inr fA,rfl,rfl⟩⟩;have hy:=dA.out (.int .i64 0) (.int .i64 0);have Hy:Hid (zp (((w1.setCell ⟨w.heap.size+1,0,none⟩ (.int .i64 0)).setCell ⟨w.heap.size+1,1,none⟩ (.int .i64 0)).alloc (.cells #[.int .i64 ps,.int .i64 pb] 61)) (w.heap.size+1) (.int .i64 0) (.int .i64 0)):=hy;clear hy;rcases e0 with e0 | ⟨e0,e1⟩
   all_goals
    go_wp2;have hy:=Hy.out;refine bodyPost_ret (v:=.agg #[.int .i64 0,.int .i64 0]) (by simp[results,Tryz.results221,go_sem,hy.1.1,hy.2.1]) rfl ⟨⟨_,_,rfl,HK.out⟩,cA.out _ _⟩
  ·have HK:Hid (zAC n f b ks kb ps pb):=⟨ps,pb,Hp.out,Or.inr ⟨fun h=>by rcases h with h | h;exact HN.out h;exact fA h,rfl,rfl⟩⟩;rcases e0 with e0 | ⟨e0,e1⟩
   all_goals
    go_wp2;have hy:=dA.out (.int .i64 ps) (.int .i64 pb);refine bodyPost_ret (v:=.agg #[.int .i64 ps,.int .i64 pb]) (by simp[results,Tryz.results221,go_sem,hy.1.1,hy.2.1]) rfl ⟨⟨_,_,rfl,HK.out⟩,cA.out _ _⟩
def yz(w:World)(v:Value)(n:Nat)(f:Nat->ByteArray):Prop:=
 n<=1000/\∃a c,v = .slice a n c/\(∀i,i<n->(f i).size<=maxLen)/\(0<n->∃b off,a=some ⟨b,off,none⟩/\∀i,i<n->w.cell? ⟨b,off+i,none⟩=some (.string (f i)))
theorem yz.zO9{w w':World}{v:Value}{n:Nat}{f:Nat->ByteArray}(h:yz w v n f)(t:Below w.heap.size w w'):yz w' v n f:=by
 obtain⟨m,a,c,hv,hs,hx⟩:=h;refine⟨m,a,c,hv,hs,fun h0=>?_⟩;obtain⟨b,off,ha,hc⟩:=hx h0;exact⟨b,off,ha,fun i hi=>(t.cell (zD (hc i hi))).trans (hc i hi)⟩
theorem yz.cells{w:World}{a:Option Addr}{c n:Nat}{f:Nat->ByteArray}(h:yz w (.slice a n c) n f){i:Nat}(hi:i<n):∃b off,a=some ⟨b,off,none⟩/\w.cell? ⟨b,off+i,none⟩=some (.string (f i)):=by
 obtain⟨m,a0,c0,hv,hs,hx⟩:=h;simp only[Value.slice.injEq,true_and]at hv;obtain⟨rfl,rfl⟩:=hv;obtain⟨b,off,ha,hc⟩:=hx (by omega);exact⟨b,off,ha,hc i hi⟩
theorem zMS(s:ByteArray)(w:World)(hs:s.size<=maxLen):Calls Tryz.prog 164 #[.string s] w fun e w'=>zG (8000<s.size) e/\Below w.heap.size w w':=by
 unfold maxLen at hs;by_cases h:8000<s.size
 ·have h':(8000:Int)<(s.size:Int):=(by omega);have H:=zf h;clear h;go_enter Tryz.func164,Tryz.ntmps164;go_wp2;go_ret;exact⟨zG.yes H.out,Below.refl _ _⟩
 ·have h':¬(8000:Int)<(s.size:Int):=(by omega);have H:=zf h;clear h;go_enter Tryz.func164,Tryz.ntmps164;go_wp2;go_ret;exact⟨zG.no H.out,Below.refl _ _⟩
theorem zM4(s:ByteArray)(w:World)(hs:s.size<=maxLen):Calls Tryz.prog 166 #[.string s] w fun e w'=>zG (¬yE s) e/\Below w.heap.size w w':=by
 go_enter Tryz.func166,Tryz.ntmps166;go_wp2_with fail;refine(zCv s w hs).mono ?_;rintro e w1 ⟨⟨t,rfl,ht⟩,rfl⟩;by_cases hf:yE s
 ·obtain rfl:t=true:=ht.2 hf;have HF:=zf hf;clear ht hf;go_wp2;go_ret;exact⟨zG.no (fun h=>h HF.out),Below.refl _ _⟩
 ·obtain rfl:t=false:=zW ht hf;have HF:=zf hf;clear ht hf;go_wp2;go_ret;exact⟨zG.yes HF.out,Below.refl _ _⟩
theorem zJu(v:Value)(n:Nat)(f:Nat->ByteArray)(w:World)(h:yz w v n f) :
  Calls Tryz.prog 201 #[v,.func (.func 164) #[] #[]] w fun e w'=>((∃i:Nat,i<n/\8000<(f i).size/\e = .returned (.int .i64 (i:Int)))\/((∀j,j<n->¬8000<(f j).size)/\e = .returned (.int .i64 (-1))))/\Below w.heap.size w w':=by
 have Hp:=zf h;obtain⟨m1,a,c,rfl,hs,-⟩:=h;have Hs:=zf hs;clear hs;go_enter Tryz.func201,Tryz.ntmps201;go_wp2
 go_loopw [8] (fun i wr=>∃k:Nat,k<=n/\i = .int .i64 k/\(∀j,j<k->¬8000<(f j).size)/\Below w.heap.size w wr) (fun i _=>n - (intOf i).toNat)
 case atStart=>exact⟨0,Nat.zero_le _,rfl,fun j hj=>absurd hj (Nat.not_lt_zero _),Below.refl _ _⟩
 case round=>
  obtain⟨k,hk,rfl,bA,hb⟩:=hrel;have aA:=zf bA;clear bA;by_cases cA:k<n
  ·have fA:(k:Int)<(n:Int):=(by omega);obtain⟨b,off,rfl,q0⟩:=(Hp.out.zO9 hb).cells cA;have gA:=Hs.out k cA;go_wp2_with fail;refine(zMS (f k) _ gA).mono ?_;rintro e w1 ⟨⟨t,rfl,ht⟩,dA⟩;have eA:=zA hb dA;clear dA q0;by_cases hf:8000<(f k).size
   ·obtain rfl:t=true:=ht.2 hf;have HF:=zf hf;clear ht hf;go_wp2;go_ret;exact⟨Or.inl ⟨k,cA,HF.out,rfl⟩,eA⟩
   ·obtain rfl:t=false:=zW ht hf;have HF:=zf hf;clear ht hf;go_wp2;go_roundw
    case rel=>
     refine⟨k+1,by omega,by go_num,fun j hj=>?_,eA⟩;by_cases e:j=k
     ·subst e;exact HF.out
     ·exact aA.out j (by omega)
    case measure=>simp[intOf];omega
  ·obtain rfl:k=n:=(by omega);go_wp2;go_ret;exact⟨Or.inr ⟨aA.out,rfl⟩,hb⟩
theorem zMI(v:Value)(n:Nat)(f:Nat->ByteArray)(w:World)(h:yz w v n f) :
  Calls Tryz.prog 163 #[v,.func (.func 164) #[] #[]] w fun e w'=>zG (∃i,i<n/\8000<(f i).size) e/\Below w.heap.size w w':=by
 have Hp:=zf h;obtain⟨m1,a,c,rfl,hs,-⟩:=h;go_enter Tryz.func163,Tryz.ntmps163;go_wp2_with fail;refine(zJu _ n f w Hp.out).mono ?_;rintro e w1 ⟨hr,aA⟩;rcases hr with⟨i,hi,hP,rfl⟩ | ⟨bA,rfl⟩
 ·have HP:=zf (show ∃i,i<n/\8000<(f i).size from⟨i,hi,hP⟩);have h0:(0:Int)<=(i:Int):=(by omega);clear hP;go_wp2;go_ret;exact⟨zG.yes HP.out,aA⟩
 ·have HP:=zf bA;clear bA;go_wp2;go_ret;exact⟨zG.no fun ⟨i,hi,hq⟩=>HP.out i hi hq,aA⟩
theorem zJv(v:Value)(n:Nat)(f:Nat->ByteArray)(w:World)(h:yz w v n f) :
  Calls Tryz.prog 201 #[v,.func (.func 166) #[] #[]] w fun e w'=>((∃i:Nat,i<n/\¬yE (f i)/\e = .returned (.int .i64 (i:Int)))\/((∀j,j<n->¬¬yE (f j))/\e = .returned (.int .i64 (-1))))/\Below w.heap.size w w':=by
 have Hp:=zf h;obtain⟨m1,a,c,rfl,hs,-⟩:=h;have Hs:=zf hs;clear hs;go_enter Tryz.func201,Tryz.ntmps201;go_wp2
 go_loopw [8] (fun i wr=>∃k:Nat,k<=n/\i = .int .i64 k/\(∀j,j<k->¬¬yE (f j))/\Below w.heap.size w wr) (fun i _=>n - (intOf i).toNat)
 case atStart=>exact⟨0,Nat.zero_le _,rfl,fun j hj=>absurd hj (Nat.not_lt_zero _),Below.refl _ _⟩
 case round=>
  obtain⟨k,hk,rfl,bA,hb⟩:=hrel;have aA:=zf bA;clear bA;by_cases cA:k<n
  ·have fA:(k:Int)<(n:Int):=(by omega);obtain⟨b,off,rfl,q0⟩:=(Hp.out.zO9 hb).cells cA;have gA:=Hs.out k cA;go_wp2_with fail;refine(zM4 (f k) _ gA).mono ?_;rintro e w1 ⟨⟨t,rfl,ht⟩,dA⟩;have eA:=zA hb dA;clear dA q0;by_cases hf:¬yE (f k)
   ·obtain rfl:t=true:=ht.2 hf;have HF:=zf hf;clear ht hf;go_wp2;go_ret;exact⟨Or.inl ⟨k,cA,HF.out,rfl⟩,eA⟩
   ·obtain rfl:t=false:=zW ht hf;have HF:=zf hf;clear ht hf;go_wp2;go_roundw
    case rel=>
     refine⟨k+1,by omega,by go_num,fun j hj=>?_,eA⟩;by_cases e:j=k
     ·subst e;exact HF.out
     ·exact aA.out j (by omega)
    case measure=>simp[intOf];omega
  ·obtain rfl:k=n:=(by omega);go_wp2;go_ret;exact⟨Or.inr ⟨aA.out,rfl⟩,hb⟩
theorem zMJ(v:Value)(n:Nat)(f:Nat->ByteArray)(w:World)(h:yz w v n f) :
  Calls Tryz.prog 163 #[v,.func (.func 166) #[] #[]] w fun e w'=>zG (∃i,i<n/\¬yE (f i)) e/\Below w.heap.size w w':=by
 have Hp:=zf h;obtain⟨m1,a,c,rfl,hs,-⟩:=h;go_enter Tryz.func163,Tryz.ntmps163;go_wp2_with fail;refine(zJv _ n f w Hp.out).mono ?_;rintro e w1 ⟨hr,aA⟩;rcases hr with⟨i,hi,hP,rfl⟩ | ⟨bA,rfl⟩
 ·have HP:=zf (show ∃i,i<n/\¬yE (f i)from⟨i,hi,hP⟩);have h0:(0:Int)<=(i:Int):=(by omega);clear hP;go_wp2;go_ret;exact⟨zG.yes HP.out,aA⟩
 ·have HP:=zf bA;clear bA;go_wp2;go_ret;exact⟨zG.no fun ⟨i,hi,hq⟩=>HP.out i hi hq,aA⟩
structure zv where
 name:ByteArray
 origin:Int
 zPH:Int
 rs:Int
 rb:Int
 dn:Nat
 ds:Nat->Int
 db:Nat->Int
structure zY where
 id:Int
 name:ByteArray
 set:ByteArray
 zPH:Int
 time:Int
 rs:Int
 rb:Int
 dn:Nat
 ds:Nat->Int
 db:Nat->Int
structure zE where
 zPE:zN
 time:Int
 next:Int
 sn:Nat
 zPG:Nat->zv
 pn:Nat
 zPD:Nat->zY
structure zAt (w:World) (b o lo hi:Nat) (vd:Value) (s:zv):Prop where
 c0:w.cell? ⟨b,o,none⟩=some (.string s.name)
 c1:w.cell? ⟨b,o+1,none⟩=some (.int .i64 s.origin)
 c2:w.cell? ⟨b,o+2,none⟩=some (.int .i64 s.zPH)
 c3:w.cell? ⟨b,o+3,none⟩=some (.int .i64 s.rs)
 c4:w.cell? ⟨b,o+4,none⟩=some (.int .i64 s.rb)
 c5:w.cell? ⟨b,o+5,none⟩=some vd
 zPK:zR w lo hi vd s.dn s.ds s.db
 zPN:s.name.size<=maxLen
theorem zAt.zO9{w w':World}{b o lo hi:Nat}{vd:Value}{s:zv}(h:zAt w b o lo hi vd s)(t:Below w.heap.size w w'):zAt w' b o lo hi vd s:=
 ⟨(t.cell (zD h.c0)).trans h.c0,(t.cell (zD h.c1)).trans h.c1,(t.cell (zD h.c2)).trans h.c2,(t.cell (zD h.c3)).trans h.c3,(t.cell (zD h.c4)).trans h.c4,(t.cell (zD h.c5)).trans h.c5,h.zPK.zO9 t,h.zPN⟩
structure ye (w:World) (b o lo hi:Nat) (vd:Value) (s:zY):Prop where
 c0:w.cell? ⟨b,o,none⟩=some (.int .i64 s.id)
 c1:w.cell? ⟨b,o+1,none⟩=some (.string s.name)
 c2:w.cell? ⟨b,o+2,none⟩=some (.string s.set)
 c3:w.cell? ⟨b,o+3,none⟩=some (.int .i64 s.zPH)
 c4:w.cell? ⟨b,o+4,none⟩=some (.int .i64 s.time)
 c5:w.cell? ⟨b,o+5,none⟩=some (.int .i64 s.rs)
 c6:w.cell? ⟨b,o+6,none⟩=some (.int .i64 s.rb)
 c7:w.cell? ⟨b,o+7,none⟩=some vd
 zPK:zR w lo hi vd s.dn s.ds s.db
 zPN:s.name.size<=maxLen/\s.set.size<=maxLen
theorem ye.zO9{w w':World}{b o lo hi:Nat}{vd:Value}{s:zY}(h:ye w b o lo hi vd s)(t:Below w.heap.size w w'):ye w' b o lo hi vd s:=
 ⟨(t.cell (zD h.c0)).trans h.c0,(t.cell (zD h.c1)).trans h.c1,(t.cell (zD h.c2)).trans h.c2,(t.cell (zD h.c3)).trans h.c3,(t.cell (zD h.c4)).trans h.c4,(t.cell (zD h.c5)).trans h.c5,(t.cell (zD h.c6)).trans h.c6,(t.cell (zD h.c7)).trans h.c7,h.zPK.zO9 t,h.zPN⟩
def yY(w:World)(lo hi:Nat)(v:Value)(n:Nat)(f:Nat->zv):Prop:=
 n<=maxLen/\∃a cap,v = .slice a n cap/\n<=cap/\(0<n->∃b off,a=some ⟨b,off,none⟩/\lo<=b/\b<hi/\∀i,i<n->∃vd,zAt w b (off+i*6) lo hi vd (f i))
def qf(w:World)(lo hi:Nat)(v:Value)(n:Nat)(f:Nat->zY):Prop:=
 n<=maxLen/\∃a cap,v = .slice a n cap/\n<=cap/\(0<n->∃b off,a=some ⟨b,off,none⟩/\lo<=b/\b<hi/\∀i,i<n->∃vd,ye w b (off+i*8) lo hi vd (f i))
theorem yY.zO9{w w':World}{lo hi:Nat}{v:Value}{n:Nat}{f:Nat->zv}(h:yY w lo hi v n f)(t:Below w.heap.size w w'):yY w' lo hi v n f:=by
 obtain⟨h0,a,cap,hv,aA,hc⟩:=h;refine⟨h0,a,cap,hv,aA,fun hn=>?_⟩;obtain⟨b,off,ha,h1,h2,h3⟩:=hc hn;refine⟨b,off,ha,h1,h2,fun i hi=>?_⟩;obtain⟨vd,hs⟩:=h3 i hi;exact⟨vd,hs.zO9 t⟩
theorem qf.zO9{w w':World}{lo hi:Nat}{v:Value}{n:Nat}{f:Nat->zY}(h:qf w lo hi v n f)(t:Below w.heap.size w w'):qf w' lo hi v n f:=by
 obtain⟨h0,a,cap,hv,aA,hc⟩:=h;refine⟨h0,a,cap,hv,aA,fun hn=>?_⟩;obtain⟨b,off,ha,h1,h2,h3⟩:=hc hn;refine⟨b,off,ha,h1,h2,fun i hi=>?_⟩;obtain⟨vd,hs⟩:=h3 i hi;exact⟨vd,hs.zO9 t⟩
theorem yY.cells{w:World}{lo hi:Nat}{a:Option Addr}{n c:Nat}{f:Nat->zv}(h:yY w lo hi (.slice a n c) n f){i:Nat}(aA:i<n):∃b off vd,a=some ⟨b,off,none⟩/\zAt w b (off+i*6) lo hi vd (f i):=by
 obtain⟨h0,a2,cap,hv,bA,hx⟩:=h;simp only[Value.slice.injEq,true_and]at hv;obtain⟨rfl,rfl⟩:=hv;obtain⟨b,off,ha,h1,h2,h3⟩:=hx (by omega);obtain⟨vd,hs⟩:=h3 i aA;exact⟨b,off,vd,ha,hs⟩
theorem qf.cells{w:World}{lo hi:Nat}{a:Option Addr}{n c:Nat}{f:Nat->zY}(h:qf w lo hi (.slice a n c) n f){i:Nat}(aA:i<n):∃b off vd,a=some ⟨b,off,none⟩/\ye w b (off+i*8) lo hi vd (f i):=by
 obtain⟨h0,a2,cap,hv,bA,hx⟩:=h;simp only[Value.slice.injEq,true_and]at hv;obtain⟨rfl,rfl⟩:=hv;obtain⟨b,off,ha,h1,h2,h3⟩:=hx (by omega);obtain⟨vd,hs⟩:=h3 i aA;exact⟨b,off,vd,ha,hs⟩
structure zd (w:World) (lo hi:Nat) (v0 v1 v2 v3:Value) (W:zE):Prop where
 zPE:qS w lo hi v0 v1 W.zPE
 zPG:yY w lo hi v2 W.sn W.zPG
 zPD:qf w lo hi v3 W.pn W.zPD
theorem zd.zO9{w w':World}{lo hi:Nat}{v0 v1 v2 v3:Value}{W:zE}(h:zd w lo hi v0 v1 v2 v3 W)(t:Below w.heap.size w w'):zd w' lo hi v0 v1 v2 v3 W:=⟨h.zPE.zO9 t,h.zPG.zO9 t,h.zPD.zO9 t⟩
abbrev zt(v0 v1 v2 v3:Value)(W:zE):Value:=.agg #[v0,v1,.int .i64 W.time,.int .i64 W.next,v2,v3]
def qM(W:zE)(id:Int)(k:Nat):Prop:=k<W.pn/\(W.zPD k).id=id/\∀j,j<k->(W.zPD j).id≠id
theorem qM.uniq{W:zE}{id:Int}{i j:Nat}(h:qM W id i)(h':qM W id j):i=j:=by
 rcases Nat.lt_trichotomy i j with e | e | e
 ·exact absurd h.2.1 (h'.2.2 i e)
 ·exact e
 ·exact absurd h'.2.1 (h.2.2 j e)
def zg(w:World)(b:Nat)(v0 v1 v2 v3 v4 v5:Value):Prop:=zQ w b 0 v0/\zQ w b 1 v1/\zQ w b 2 v2/\zQ w b 3 v3/\zQ w b 4 v4/\zQ w b 5 v5
theorem zg.zO9{w w':World}{b:Nat}{v0 v1 v2 v3 v4 v5:Value}(h:zg w b v0 v1 v2 v3 v4 v5)(t:Below w.heap.size w w'):zg w' b v0 v1 v2 v3 v4 v5:=⟨h.1.zO9 t,h.2.1.zO9 t,h.2.2.1.zO9 t,h.2.2.2.1.zO9 t,h.2.2.2.2.1.zO9 t,h.2.2.2.2.2.zO9 t⟩
theorem zg.zPF{S:Nat->Prop}{w w':World}{b:Nat}{v0 v1 v2 v3 v4 v5:Value}(h:zg w b v0 v1 v2 v3 v4 v5)(t:zF S w w')(hs:¬S b):zg w' b v0 v1 v2 v3 v4 v5:=⟨h.1.zPF t hs,h.2.1.zPF t hs,h.2.2.1.zPF t hs,h.2.2.2.1.zPF t hs,h.2.2.2.2.1.zPF t hs,h.2.2.2.2.2.zPF t hs⟩
theorem zg.new(w:World)(v0 v1 v2 v3 v4 v5:Value)(t:TypeId):zg (w.alloc (.cells #[v0,v1,v2,v3,v4,v5] t)) w.heap.size v0 v1 v2 v3 v4 v5:=by
 have hb:(w.alloc (.cells #[v0,v1,v2,v3,v4,v5] t)).heap[w.heap.size]?=some (.cells #[v0,v1,v2,v3,v4,v5] t):=heap_alloc_new _ _;exact⟨zH hb rfl,zH hb rfl,zH hb rfl,zH hb rfl,zH hb rfl,zH hb rfl⟩
abbrev put6(w:World)(b:Nat)(u0 u1 u2 u3 u4 u5:Value):World:=(((((w.setCell ⟨b,0,none⟩ u0).setCell ⟨b,1,none⟩ u1).setCell ⟨b,2,none⟩ u2).setCell ⟨b,3,none⟩ u3).setCell ⟨b,4,none⟩ u4).setCell ⟨b,5,none⟩ u5
theorem zg.put{w:World}{b:Nat}{v0 v1 v2 v3 v4 v5:Value}(h:zg w b v0 v1 v2 v3 v4 v5)(u0 u1 u2 u3 u4 u5:Value):zg (put6 w b u0 u1 u2 u3 u4 u5) b u0 u1 u2 u3 u4 u5:=by
 obtain⟨h0,h1,h2,h3,h4,h5⟩:=h;refine⟨?_,?_,?_,?_,?_,?_⟩
 ·exact(((((h0.set _).zPA _ (Or.inr (by omega))).zPA _ (Or.inr (by omega))).zPA _ (Or.inr (by omega))).zPA _ (Or.inr (by omega))).zPA _ (Or.inr (by omega))
 ·exact(((((h1.zPA _ (Or.inr (by omega))).set _).zPA _ (Or.inr (by omega))).zPA _ (Or.inr (by omega))).zPA _ (Or.inr (by omega))).zPA _ (Or.inr (by omega))
 ·exact(((((h2.zPA _ (Or.inr (by omega))).zPA _ (Or.inr (by omega))).set _).zPA _ (Or.inr (by omega))).zPA _ (Or.inr (by omega))).zPA _ (Or.inr (by omega))
 ·exact(((((h3.zPA _ (Or.inr (by omega))).zPA _ (Or.inr (by omega))).zPA _ (Or.inr (by omega))).set _).zPA _ (Or.inr (by omega))).zPA _ (Or.inr (by omega))
 ·exact(((((h4.zPA _ (Or.inr (by omega))).zPA _ (Or.inr (by omega))).zPA _ (Or.inr (by omega))).zPA _ (Or.inr (by omega))).set _).zPA _ (Or.inr (by omega))
 ·exact(((((h5.zPA _ (Or.inr (by omega))).zPA _ (Or.inr (by omega))).zPA _ (Or.inr (by omega))).zPA _ (Or.inr (by omega))).zPA _ (Or.inr (by omega))).set _
theorem zF.put6(w:World)(b:Nat)(u0 u1 u2 u3 u4 u5:Value):zF (fun k=>k=b) w (put6 w b u0 u1 u2 u3 u4 u5):=
 (((((zF.put w b 0 u0).trans (zF.put _ b 1 u1)).trans (zF.put _ b 2 u2)).trans (zF.put _ b 3 u3)).trans (zF.put _ b 4 u4)).trans (zF.put _ b 5 u5)
theorem zB{P:Prop}(h:P):Hid P:=h
def zEe(n:Nat)(P:Nat->Prop)(r:Int):Prop:=(∃k:Nat,k<n/\P k/\(∀j,j<k->¬P j)/\r=k)\/((∀j,j<n->¬P j)/\r = -1)
theorem zw(v0 v1 v2 v3:Value)(lo hi:Nat)(W:zE)(x:Int)(w:World)(h:zd w lo hi v0 v1 v2 v3 W) :
  Calls Tryz.prog 49 #[zt v0 v1 v2 v3 W,.int .i64 x] w fun e w'=>∃r:Int,e = .returned (.int .i64 r)/\zEe W.pn (fun k=>(W.zPD k).id=x) r/\Below w.heap.size w w':=by
 have Hp:=zB h.zPD;obtain⟨m1,a,c,rfl,mc,_⟩:=id h.zPD;unfold maxLen at m1;clear h;have ha:=zC w (.cells #[v0,v1,.int .i64 W.time,.int .i64 W.next,v2,.slice a W.pn c] 37);have HB:=zB (zg.new w v0 v1 (.int .i64 W.time) (.int .i64 W.next) v2 (.slice a W.pn c) 37);go_enter Tryz.func49,Tryz.ntmps49;go_wp2
 go_loopw [5] (fun i wr=>∃k:Nat,k<=W.pn/\i = .int .i64 k/\(∀j,j<k->¬(W.zPD j).id=x)/\zg wr w.heap.size v0 v1 (.int .i64 W.time) (.int .i64 W.next) v2 (.slice a W.pn c)/\Below w.heap.size w wr) (fun i _=>W.pn - (intOf i).toNat)
 case atStart=>exact⟨0,Nat.zero_le _,rfl,fun j hj=>absurd hj (Nat.not_lt_zero _),HB.out,ha⟩
 case round=>
  obtain⟨k,hk,rfl,cA,hX,hb⟩:=hrel;have aA:=zB cA;have HX:=zB hX;clear cA hX;obtain⟨⟨x0,x1⟩,⟨x2,x3⟩,⟨x4,x5⟩,⟨x6,x7⟩,⟨x8,x9⟩,⟨eA,fA⟩⟩:=HX.out;by_cases bA:k<W.pn
  ·have dA:(k:Int)<(W.pn:Int):=(by omega);obtain⟨b,off,vd,rfl,hs⟩:=(Hp.out.zO9 hb).cells bA;have q0:=hs.c0;clear hs;by_cases he:(W.zPD k).id=x
   ·have H:=zB he;rw[he]at q0;clear he;go_wp2;go_ret;exact⟨k,rfl,Or.inl ⟨k,bA,H.out,aA.out,rfl⟩,hb⟩
   ·have H:=zB he;have e0:((W.zPD k).id == x)=false:=(by simp[he]);clear he;go_wp2;go_roundw
    case rel=>
     refine⟨k+1,by omega,by go_num,?_,HX.out,hb⟩;intro j hj;by_cases e:j=k
     ·subst e;exact H.out
     ·exact aA.out j (by omega)
    case measure=>simp[intOf];omega
  ·obtain rfl:k=W.pn:=(by omega);go_wp2;go_ret;exact⟨-1,rfl,Or.inr ⟨aA.out,rfl⟩,hb⟩
theorem zK5(v0 v1 v2 v3:Value)(lo hi:Nat)(W:zE)(x:ByteArray)(w:World)(h:zd w lo hi v0 v1 v2 v3 W) :
  Calls Tryz.prog 27 #[zt v0 v1 v2 v3 W,.string x] w fun e w'=>∃r:Int,e = .returned (.int .i64 r)/\zEe W.sn (fun k=>(W.zPG k).name=x) r/\Below w.heap.size w w':=by
 have Hp:=zB h.zPG;obtain⟨m1,a,c,rfl,mc,_⟩:=id h.zPG;unfold maxLen at m1;clear h;have ha:=zC w (.cells #[v0,v1,.int .i64 W.time,.int .i64 W.next,.slice a W.sn c,v3] 37);have HB:=zB (zg.new w v0 v1 (.int .i64 W.time) (.int .i64 W.next) (.slice a W.sn c) v3 37);go_enter Tryz.func27,Tryz.ntmps27;go_wp2
 go_loopw [5] (fun i wr=>∃k:Nat,k<=W.sn/\i = .int .i64 k/\(∀j,j<k->¬(W.zPG j).name=x)/\zg wr w.heap.size v0 v1 (.int .i64 W.time) (.int .i64 W.next) (.slice a W.sn c) v3/\Below w.heap.size w wr) (fun i _=>W.sn - (intOf i).toNat)
 case atStart=>exact⟨0,Nat.zero_le _,rfl,fun j hj=>absurd hj (Nat.not_lt_zero _),HB.out,ha⟩
 case round=>
  obtain⟨k,hk,rfl,cA,hX,hb⟩:=hrel;have aA:=zB cA;have HX:=zB hX;clear cA hX;obtain⟨⟨x0,x1⟩,⟨x2,x3⟩,⟨x4,x5⟩,⟨x6,x7⟩,⟨x8,x9⟩,⟨eA,fA⟩⟩:=HX.out;by_cases bA:k<W.sn
  ·have dA:(k:Int)<(W.sn:Int):=(by omega);obtain⟨b,off,vd,rfl,hs⟩:=(Hp.out.zO9 hb).cells bA;have q0:=hs.c0;clear hs;by_cases he:(W.zPG k).name=x
   ·have H:=zB he;rw[he]at q0;clear he;go_wp2;go_ret;exact⟨k,rfl,Or.inl ⟨k,bA,H.out,aA.out,rfl⟩,hb⟩
   ·have H:=zB he;have e0:((W.zPG k).name.toList == x.toList)=false:=zEY he;clear he;go_wp2;go_roundw
    case rel=>
     refine⟨k+1,by omega,by go_num,?_,HX.out,hb⟩;intro j hj;by_cases e:j=k
     ·subst e;exact H.out
     ·exact aA.out j (by omega)
    case measure=>simp[intOf];omega
  ·obtain rfl:k=W.sn:=(by omega);go_wp2;go_ret;exact⟨-1,rfl,Or.inr ⟨aA.out,rfl⟩,hb⟩
def zIY(W:zE)(x s b t:Int):Prop:=(∃k,x≠0/\qM W x k/\s=(W.zPD k).rs/\b=(W.zPD k).rb/\t=(W.zPD k).time)\/((x=0\/∀k,k<W.pn->(W.zPD k).id≠x)/\s=0/\b=0/\t=0)
theorem zA1(v0 v1 v2 v3:Value)(lo hi:Nat)(W:zE)(x:Int)(w:World)(h:zd w lo hi v0 v1 v2 v3 W) :
  Calls Tryz.prog 52 #[zt v0 v1 v2 v3 W,.int .i64 x] w fun e w'=>∃s b t:Int,e = .returned (.tuple #[.agg #[.int .i64 s,.int .i64 b],.int .i64 t])/\zIY W x s b t/\Below w.heap.size w w':=by
 have Hp:=zB h;obtain⟨m1,a,c,rfl,mc,_⟩:=id h.zPD;unfold maxLen at m1;clear h;have ha:=zC w (.cells #[v0,v1,.int .i64 W.time,.int .i64 W.next,v2,.slice a W.pn c] 37);have hB:=zg.new w v0 v1 (.int .i64 W.time) (.int .i64 W.next) v2 (.slice a W.pn c) 37;have eA:=zC (w.alloc (.cells #[v0,v1,.int .i64 W.time,.int .i64 W.next,v2,.slice a W.pn c] 37)) (.cells #[.int .i64 0,.int .i64 0] 61);have hR:=zp.new (w.alloc (.cells #[v0,v1,.int .i64 W.time,.int .i64 W.next,v2,.slice a W.pn c] 37)) (.int .i64 0) (.int .i64 0) 61;have dA:=hB.zO9 eA;have bA:=zA ha eA;have kA:(w.alloc (.cells #[v0,v1,.int .i64 W.time,.int .i64 W.next,v2,.slice a W.pn c] 37)).heap.size=w.heap.size+1:=World.size_alloc _ _;rw[kA]at hR;clear ha eA hB;go_enter Tryz.func52,Tryz.ntmps52;go_wp2_with fail;generalize ((w.alloc (.cells #[v0,v1,.int .i64 W.time,.int .i64 W.next,v2,.slice a W.pn c] 37)).alloc (.cells #[.int .i64 0,.int .i64 0] 61))=W0 at hR dA bA ⊢;refine(zw v0 v1 v2 _ lo hi W x W0 (Hp.out.zO9 bA)).mono ?_;rintro e w1 ⟨r,rfl,hF,aA⟩;have fA:=hR.zO9 aA;have gA:=dA.zO9 aA;have cA:=zA bA aA;clear hR dA bA aA kA;have HR:=zB fA;have HX:=zB gA;clear fA gA;obtain⟨⟨y0,y1⟩,⟨y2,y3⟩⟩:=HR.out;obtain⟨⟨x0,x1⟩,⟨x2,x3⟩,⟨x4,x5⟩,⟨x6,x7⟩,⟨x8,x9⟩,⟨tA,vA⟩⟩:=HX.out;by_cases hx:x=0
 ·subst hx;clear hF;go_wp2;refine bodyPost_ret (v:=.tuple #[.agg #[.int .i64 0,.int .i64 0],.int .i64 0]) (by simp[results,Tryz.results52,go_sem,y0,y2]) rfl ⟨0,0,0,rfl,Or.inr ⟨Or.inl rfl,rfl,rfl,rfl⟩,?_⟩;exact(cA.setCell (by show w.heap.size<=w.heap.size+1;omega) _).setCell (by show w.heap.size<=w.heap.size+1;omega) _
 ·have Hx:=zB hx;have f0:(x == 0)=false:=(by simp[hx]);clear hx;rcases hF with⟨k,hk,jA,hm,rfl⟩ | ⟨hn,rfl⟩
  ·obtain⟨b,off,vd,rfl,hs⟩:=(Hp.out.zPD.zO9 cA).cells hk;have q4:=hs.c4;have q5:=hs.c5;have q6:=hs.c6;have pA:(k:Int)<(W.pn:Int):=(by omega);have lA:b<w.heap.size:=by
    obtain⟨b2,oA,sA,e2,nA⟩:=Hp.out.zPD.cells hk;cases e2;exact zD nA.c0
   have rA:b≠w.heap.size+1:=(by omega);have mA:w.heap.size≠w.heap.size+1:=(by omega);have Hk:=zB (And.intro jA hm);clear hs jA hm lA;have iA:w.heap.size<=w.heap.size+1:=(by omega);generalize w.heap.size+1=R at *;go_wp2;go_region;go_wp2;refine bodyPost_ret (v:=.tuple #[.agg #[.int .i64 (W.zPD k).rs,.int .i64 (W.zPD k).rb],.int .i64 (W.zPD k).time]) (by simp[results,Tryz.results52,go_sem,y0,y2]) rfl ⟨_,_,_,rfl,Or.inl ⟨k,Hx.out,⟨hk,Hk.out.1,Hk.out.2⟩,rfl,rfl,rfl⟩,?_⟩;exact((cA.setCell iA _).setCell iA _).drew
  ·have Hn:=zB hn;clear hn;go_wp2;refine bodyPost_ret (v:=.tuple #[.agg #[.int .i64 0,.int .i64 0],.int .i64 0]) (by simp[results,Tryz.results52,go_sem,y0,y2]) rfl ⟨0,0,0,rfl,Or.inr ⟨Or.inr Hn.out,rfl,rfl,rfl⟩,?_⟩;exact(cA.setCell (by show w.heap.size<=w.heap.size+1;omega) _).setCell (by show w.heap.size<=w.heap.size+1;omega) _
open Go.Maps
def zA8(t:Int):Prop:=0<=t/\t<=1000000
def zEi(s b:Int):Prop:=0<=s/\s<=199/\1<=b/\b<=1000000
def zJT(n:Nat)(f:Nat->Int):Prop:=∀i,i<n->∀k,k<i->f k≠f i
def qN(n:Nat)(f g:Nat->Int):Prop:=n<=200/\(∀i,i<n->zEi (f i) (g i))/\zJT n f
def PIn(n:Nat)(f g:Nat->Int)(x y:Int):Prop:=∃j,j<n/\f j=x/\g j=y
def zDJ(n:Nat)(f g:Nat->Int)(m:Nat)(f' g':Nat->Int):Prop:=qN n f g/\qN m f' g'/\n=m/\∀i,i<n->PIn m f' g' (f i) (g i)
theorem zJT.inj{n:Nat}{f:Nat->Int}(h:zJT n f){i k:Nat}(hi:i<n)(hk:k<n)(e:f i=f k):i=k:=by
 rcases Nat.lt_trichotomy i k with h1 | h1 | h1
 ·exact absurd e (h k hk i h1)
 ·exact h1
 ·exact absurd e.symm (h i hi k h1)
theorem zJI:∀(n m:Nat) (h:Nat->Nat),(∀i,i<n->h i<m)->(∀i k,i<n->k<n->h i=h k->i=k)->n<=m
 | 0,_,_,_,_=>Nat.zero_le _
 | n+1,m,h,h1,h2=>by
  have hm:=h1 n (Nat.lt_succ_self n);have:=zJI n (m - 1) (fun i=>if h i<h n then h i else h i - 1) (fun i hi=>by
   have:=h1 i (by omega);have:h i≠h n:=fun e=>by have:=h2 i n (by omega) (by omega) e;omega
   show(if h i<h n then h i else h i - 1)<m - 1;split<;>omega) (fun i k hi hk e=>by
   have a1:h i≠h n:=fun e=>by have:=h2 i n (by omega) (by omega) e;omega
   have a2:h k≠h n:=fun e=>by have:=h2 k n (by omega) (by omega) e;omega
   have e':(if h i<h n then h i else h i - 1)=(if h k<h n then h k else h k - 1):=e;refine h2 i k (by omega) (by omega) ?_;split at e'<;>split at e'<;>omega)
  omega
theorem zMj{n:Nat}{f g f' g':Nat->Int}(h1:qN n f g)(h2:qN n f' g')(h:∀i,i<n->PIn n f' g' (f i) (g i)):∀j,j<n->PIn n f g (f' j) (g' j):=by
 intro j hj;by_cases hx:PIn n f g (f' j) (g' j)
 ·exact hx
 ·exfalso;have:=zJI n (n - 1) (fun i=>if hi:i<n then(if (h i hi).choose<j then(h i hi).choose else(h i hi).choose - 1)else 0) (fun i hi=>by
   have hs:=(h i hi).choose_spec;have bA:(h i hi).choose≠j:=fun e=>hx ⟨i,hi,by rw[<-hs.2.1,e],by rw[<-hs.2.2,e]⟩
   simp only[hi,dif_pos];split<;>omega) (fun i k hi hk e=>by
   have hs:=(h i hi).choose_spec;have aA:=(h k hk).choose_spec;have bA:(h i hi).choose≠j:=fun e=>hx ⟨i,hi,by rw[<-hs.2.1,e],by rw[<-hs.2.2,e]⟩
   have cA:(h k hk).choose≠j:=fun e=>hx ⟨k,hk,by rw[<-aA.2.1,e],by rw[<-aA.2.2,e]⟩
   simp only[hi,hk,dif_pos]at e;have e2:(h i hi).choose=(h k hk).choose:=(by split at e<;>split at e<;>omega);refine h1.2.2.inj hi hk ?_;rw[<-hs.2.1,<-aA.2.1,e2])
  omega
theorem zDJ.symm{n m:Nat}{f g f' g':Nat->Int}(h:zDJ n f g m f' g'):zDJ m f' g' n f g:=by
 obtain⟨h1,h2,rfl,h3⟩:=h;exact⟨h2,h1,rfl,zMj h1 h2 h3⟩
def zBT(x:Int):Lit:=.int .i64 x
theorem zGA{x y:Int}(h:x≠y):zBT x≠zBT y:=fun e=>h (by unfold zBT at e;injection e)
theorem zGf(x:Int):WideAt.IsKeyLit (zBT x):=trivial
def zCo(x:Int):DataW Unit:=.lit (.int .i64 x)
theorem zEq{x y:Int}(h:zCo x=zCo y):x=y:=by unfold zCo at h;injection h with h;injection h
def seenD(f g:Nat->Int):Nat->DataW Unit
 | 0=>.map []
 | k+1=>(seenD f g k).put (zBT (f k)) (zCo (g k))
theorem zCk(f g:Nat->Int):∀k,Tidy (seenD f g k)
 | 0=>tidy_empty
 | k+1=>(zCk f g k).put (zGf _) _
theorem zDg(f g:Nat->Int)(x:Int):∀k,Maps.has (seenD f g k) (zBT x)=true↔∃i,i<k/\f i=x
 | 0=>by
  constructor
  ·intro h;exact absurd h (by simp[seenD,Maps.has])
  ·rintro⟨i,hi,_⟩;omega
 | k+1=>by
  by_cases hx:f k=x
  ·subst hx;exact⟨fun _=>⟨k,by omega,rfl⟩,fun _=>has_put_same (zCk f g k).isMap (zGf _) _⟩
  ·rw[show Maps.has (seenD f g (k+1)) (zBT x)=Maps.has (seenD f g k) (zBT x)from has_put_other (zGA (Ne.symm hx)) _,zDg f g x k];constructor
   ·rintro⟨i,hi,e⟩;exact⟨i,by omega,e⟩
   ·rintro⟨i,hi,e⟩;by_cases h:i=k
    ·subst h;exact absurd e hx
    ·exact⟨i,by omega,e⟩
theorem zFR{k:Nat}{f:Nat->Int}:zJT (k+1) f↔zJT k f/\∀i,i<k->f i≠f k:=by
 constructor
 ·exact fun h=>⟨fun i hi=>h i (by omega),fun i hi=>h k (by omega) i hi⟩
 ·rintro⟨h1,h2⟩ i hi j hj;by_cases e:i=k
  ·subst e;exact h2 j hj
  ·exact h1 i (by omega) j hj
theorem zFc(f g:Nat->Int):∀k,Maps.size (seenD f g k)<=k/\(Maps.size (seenD f g k)=k↔zJT k f)
 | 0=>⟨Nat.le_refl _,fun _ i hi=>by omega,fun _=>rfl⟩
 | k+1=>by
  obtain⟨h1,h2⟩:=zFc f g k;have e:Maps.size (seenD f g (k+1))=if Maps.has (seenD f g k) (zBT (f k))then Maps.size (seenD f g k)else Maps.size (seenD f g k)+1:=size_put (zCk f g k) _
  by_cases hh:Maps.has (seenD f g k) (zBT (f k))=true
  ·rw[if_pos hh]at e;rw[e,zFR];refine⟨by omega,fun h=>by omega,fun h=>?_⟩;obtain⟨i,hi,he⟩:=(zDg f g (f k) k).1 hh;exact absurd he (h.2 i hi)
  ·rw[if_neg hh]at e;rw[e,zFR,<-h2];refine⟨by omega,fun h=>⟨by omega,fun i hi he=>hh ((zDg f g (f k) k).2 ⟨i,hi,he⟩)⟩,fun h=>by omega⟩
theorem zL3{n:Nat}{f:Nat->Int}(g:Nat->Int)(hd:zJT n f)(z:DataW Unit):∀k,k<=n->∀i,i<k->(seenD f g k).atKey (zBT (f i)) z=zCo (g i)
 | 0,_,i,hi=>absurd hi (Nat.not_lt_zero _)
 | k+1,hk,i,hi=>by
  by_cases e:i=k
  ·subst e;exact atKey_put_same (zCk f g i).isMap (zGf _) _ _
  ·exact(atKey_put_other (zGA (fun h=>e (hd.inj (by omega) (by omega) h))) _ _).trans (zL3 g hd z k (by omega) i (by omega))
structure zCV (n:Nat) (f g f':Nat->Int) (k:Nat) (D:DataW Unit):Prop where
 tidy:Tidy D
 size:Maps.size D+k=n
 at':∀x,(∀j,j<k->f' j≠x)->(∀i,i<n->f i=x->D.atKey (zBT x) (zCo 0)=zCo (g i))/\((∀i,i<n->f i≠x)->D.atKey (zBT x) (zCo 0)=zCo 0)
 has:∀x,Maps.has D (zBT x)=true↔(∃i,i<n/\f i=x)/\∀j,j<k->f' j≠x
theorem zCV.start{n:Nat}{f g:Nat->Int}(h:qN n f g)(f':Nat->Int):zCV n f g f' 0 (seenD f g n) where
 tidy:=zCk f g n
 size:=by rw[(zFc f g n).2.2 h.2.2];rfl
 at':=fun x _=>⟨fun i hi e=>by subst e;exact zL3 g h.2.2 _ n (Nat.le_refl _) i hi,fun aA=>by
  refine atKey_of_not_has ?_ _;rw[Bool.eq_false_iff];intro hh;obtain⟨i,hi,e⟩:=(zDg f g x n).1 hh;exact aA i hi e⟩
 has:=fun x=>by
  rw[zDg];exact⟨fun h=>⟨h,fun j hj=>absurd hj (Nat.not_lt_zero _)⟩,fun h=>h.1⟩
theorem zCV.next{n m:Nat}{f g f' g':Nat->Int}{k:Nat}{D:DataW Unit}(h:zCV n f g f' k D)(h2:qN m f' g')(hk:k<m)(e:D.atKey (zBT (f' k)) (zCo 0)=zCo (g' k)):zCV n f g f' (k+1) (D.del (zBT (f' k))):=by
 have bA:Maps.has D (zBT (f' k))=true:=by
  by_cases hh:Maps.has D (zBT (f' k))=true
  ·exact hh
  ·rw[atKey_of_not_has (by simpa using hh)]at e;have:=zEq e;have:=(h2.2.1 k hk).2.2.1;omega
 have hs:=size_del (k:=zBT (f' k)) h.tidy;rw[bA]at hs;refine⟨h.tidy.del _,?_,fun x hx=>?_,fun x=>?_⟩
 ·have:=h.size;have cA:Maps.size (D.del (zBT (f' k)))+1=Maps.size D:=hs;omega
 ·have aA:f' k≠x:=hx k (by omega);rw[atKey_del_other (zGA (Ne.symm aA))];exact h.at' x (fun j hj=>hx j (by omega))
 ·by_cases aA:f' k=x
  ·subst aA;rw[has_del_same];exact⟨fun h=>absurd h (by simp),fun h=>absurd rfl (h.2 k (by omega))⟩
  ·rw[has_del_other (zGA (Ne.symm aA)),h.has x];refine and_congr_right fun _=>⟨fun h j hj=>?_,fun h j hj=>h j (by omega)⟩
   by_cases ej:j=k
   ·subst ej;exact aA
   ·exact h j (by omega)
theorem zCV.no{n m:Nat}{f g f' g':Nat->Int}{k:Nat}{D:DataW Unit}(h:zCV n f g f' k D)(h1:qN n f g)(h2:qN m f' g')(hk:k<m){c:Int}(e:D.atKey (zBT (f' k)) (zCo 0)=zCo c)(hc:c≠g' k):¬zDJ n f g m f' g':=by
 intro hs;obtain⟨i,hi,e1,e2⟩:=hs.symm.2.2.2 k hk;have:=(h.at' (f' k) (fun j hj=>h2.2.2 k hk j hj)).1 i hi e1;rw[e]at this;exact hc ((zEq this).trans e2)
theorem zCV.end{n m:Nat}{f g f' g':Nat->Int}{D:DataW Unit}(h:zCV n f g f' m D)(h1:qN n f g)(h2:qN m f' g')(aA:∀j,j<m->PIn n f g (f' j) (g' j)):Maps.size D=0↔zDJ n f g m f' g':=by
 have hs:=h.size;constructor
 ·intro h0;obtain rfl:m=n:=(by omega);exact zDJ.symm ⟨h2,h1,rfl,aA⟩
 ·intro hp;have:=hp.2.2.1;omega
theorem zCV.in{n m:Nat}{f g f' g':Nat->Int}{k:Nat}{D:DataW Unit}(h:zCV n f g f' k D)(h2:qN m f' g')(hk:k<m)(e:D.atKey (zBT (f' k)) (zCo 0)=zCo (g' k)):PIn n f g (f' k) (g' k):=by
 by_cases hx:∃i,i<n/\f i=f' k
 ·obtain⟨i,hi,ei⟩:=hx;have:=(h.at' (f' k) (fun j hj=>h2.2.2 k hk j hj)).1 i hi ei;rw[e]at this;exact⟨i,hi,ei,(zEq this).symm⟩
 ·have:=(h.at' (f' k) (fun j hj=>h2.2.2 k hk j hj)).2 (fun i hi e=>hx ⟨i,hi,e⟩);rw[e]at this;have:=zEq this;have:=(h2.2.1 k hk).2.2.1;omega
def zy(f g:Nat->Int)(t:Int):Nat->List (Int×Int)
 | 0=>[]
 | k+1=>if t<g k then zy f g t k ++ [(f k,g k)] else zy f g t k
def zAJ(f g:Nat->Int)(t:Int):Nat->List (Int×Int)
 | 0=>[]
 | k+1=>if t<g k then zAJ f g t k else zAJ f g t k ++ [(f k,g k)]
theorem zBL(f g:Nat->Int)(t:Int):∀k,(zy f g t k).length+(zAJ f g t k).length=k
 | 0=>rfl
 | k+1=>by
  have:=zBL f g t k;unfold zy zAJ;split<;>simp<;>omega
theorem zT{P:Prop}(h:P):Hid P:=h
theorem zR.zPC{w:World}{lo hi:Nat}{a:Option Addr}{n c:Nat}{f g:Nat->Int}(h:zR w lo hi (.slice a n c) n f g){k:Nat}(hk:k<n):∃b off,a=some ⟨b,off,none⟩/\w.cell? ⟨b,off+k*2,none⟩=some (.int .i64 (f k))/\w.cell? ⟨b,off+k*2+1,none⟩=some (.int .i64 (g k)):=by
 obtain⟨_,a2,c2,hv,_,hx⟩:=h;simp only[Value.slice.injEq,true_and]at hv;obtain⟨rfl,rfl⟩:=hv;obtain⟨b,off,ha,_,_,h3⟩:=hx (by omega);exact⟨b,off,ha,(h3 k hk).1,(h3 k hk).2⟩
theorem zJK(x y:Int)(w:World):Calls Tryz.prog 214 #[.agg #[.int .i64 x,.int .i64 y]] w fun e w'=>zG (zEi x y) e/\Below w.heap.size w w':=by
 have aA:=zC w (.cells #[.int .i64 x,.int .i64 y] 61);by_cases h1:0<=x
 ·by_cases h2:x<200
  ·by_cases h3:yI y
   ·have H:=zT (show zEi x y from⟨h1,by omega,h3.1,h3.2⟩);have H3:=zT h3;clear h3;go_enter Tryz.func214,Tryz.ntmps214;go_wp2_with (first | (go_at_call 156;refine(qj y _).mono ?_;rintro e w1 ⟨⟨t,rfl,ht⟩,rfl⟩;obtain rfl:t=true:=ht.2 H3.out;clear ht) | fail);go_wp2;go_ret;exact⟨zG.yes H.out,aA⟩
   ·have H:=zT (show ¬zEi x y from fun h=>h3 ⟨h.2.2.1,h.2.2.2⟩);have H3:=zT h3;clear h3;go_enter Tryz.func214,Tryz.ntmps214;go_wp2_with (first | (go_at_call 156;refine(qj y _).mono ?_;rintro e w1 ⟨⟨t,rfl,ht⟩,rfl⟩;obtain rfl:t=false:=zW ht H3.out;clear ht) | fail);go_wp2;go_ret;exact⟨zG.no H.out,aA⟩
  ·go_enter Tryz.func214,Tryz.ntmps214;go_wp2;go_ret;exact⟨zG.no fun h=>by have:=h.2.1;omega,aA⟩
 ·go_enter Tryz.func214,Tryz.ntmps214;go_wp2;go_ret;exact⟨zG.no fun h=>by have:=h.1;omega,aA⟩
theorem zOb:Keyed Tryz.prog 2:=int_keyed (q:=.i64) (by kernel_rfl)
theorem zNR:Tryz.prog.underlying 243=some (.map 2 2):=by kernel_rfl
theorem zN2:Tryz.prog.underlying 2=some (.int .i64):=by kernel_rfl
theorem zO3(w:World):(zeroValue 2).run Tryz.prog w = .ok (.int .i64 0) w:=by kernel_rfl
theorem zHK{x:Int}(h0:0<=x)(h1:x<=1000000):(Lit.int .i64 x).wf=true:=WalkArith.wf_i64 (by omega)
def zMt(w:World)(B n:Nat)(D:DataW Unit):Prop:=w.ownsMap Tryz.prog 2 (plainElem Tryz.prog 2) B n D
theorem zEC(v:Value)(n lo hi:Nat)(f g:Nat->Int)(w:World)(h1:zR w lo hi v n f g)(hn:n<=200)(jA:∀i,i<n->zEi (f i) (g i)) :
  Calls Tryz.prog 215 #[v] w fun e w'=>e = .returned (.map (some w.heap.size))/\zMt w' w.heap.size n (seenD f g n)/\Below w.heap.size w w':=by
 have Hp:=zT h1;have gA:=zT jA;obtain⟨m1,a,c,rfl,mc,_⟩:=id h1;clear h1 jA;have nA:=@run_makeMap Tryz.prog;go_enter Tryz.func215,Tryz.ntmps215;go_wp2
 go_loopw [9] (fun i wr=>∃k:Nat,k<=n/\i = .int .i64 k/\zMt wr w.heap.size k (seenD f g k)/\Below w.heap.size w wr) (fun i _=>n - (intOf i).toNat)
 case atStart=>exact⟨0,Nat.zero_le _,rfl,World.ownsMap_made _ _ _ _,(Below.refl _ _).alloc (Nat.le_refl _) _⟩
 case round=>
  obtain⟨k,hk,rfl,eA,hb⟩:=hrel;have bA:=zT eA;clear eA;by_cases dA:k<n
  ·have mA:(k:Int)<(n:Int):=(by omega);obtain⟨b,off,rfl,q0,q1⟩:=(Hp.out.zO9 hb).zPC dA;have cA:keyOf Tryz.prog 2 (.int .i64 (f k))=some (zBT (f k)):=keyOf_int_mk zN2 (zHK (gA.out k dA).1 (by have:=(gA.out k dA).2.1;omega));have kA:=zHK (x:=g k) (by have:=(gA.out k dA).2.2.1;omega) (gA.out k dA).2.2.2;have iA:=zT cA;have lA:=zT kA;clear cA kA;go_wp2_with (first
    | (at_mapUpdate;refine wpList_mapUpdate_own _ rfl _ _ _ 243 rfl 2 2 zOb zNR _ w.heap.size k _ rfl (bA.out.alloc _) (by unfold maxLen;omega) _ _ _ rfl rfl iA.out _ [] (plainElem_int zN2 lA.out) ?_;intro w1 fA aA)
    | go_in)
   go_roundw
   case rel=>exact⟨k+1,by omega,by go_num,fA,(hb.alloc hb.size _).grown aA (by rw[World.size_alloc];have:=hb.size;omega) (fun j hj=>by cases hj;exact Nat.le_refl _)⟩
   case measure=>simp[intOf];omega
  ·obtain rfl:k=n:=(by omega);go_wp2;go_ret;exact⟨rfl,bA.out,hb⟩
theorem qh(v:Value)(n lo hi:Nat)(f g:Nat->Int)(w:World)(h1:zR w lo hi v n f g) :
  Calls Tryz.prog 186 #[v] w fun e w'=>zG (qN n f g) e/\Below w.heap.size w w':=by
 have Hp:=zT h1;obtain⟨m1,a,c,rfl,mc,_⟩:=id h1;clear h1;unfold maxLen at m1;by_cases hn:n<=200
 ·have lA:¬(200:Int)<(n:Int):=(by omega);go_enter Tryz.func186,Tryz.ntmps186;go_wp2
  go_loopw [10] (fun i wr=>∃k:Nat,k<=n/\i = .int .i64 k/\(∀i,i<k->zEi (f i) (g i))/\Below w.heap.size w wr) (fun i _=>n - (intOf i).toNat)
  case atStart=>exact⟨0,Nat.zero_le _,rfl,fun j hj=>absurd hj (Nat.not_lt_zero _),Below.refl _ _⟩
  case round=>
   obtain⟨k,hk,rfl,cA,hb⟩:=hrel;have aA:=zT cA;clear cA;by_cases fA:k<n
   ·have kA:(k:Int)<(n:Int):=(by omega);obtain⟨b,off,rfl,q0,q1⟩:=(Hp.out.zO9 hb).zPC fA;have gA:=zA hb (zC wr (.cells #[.int .i64 (f k),.int .i64 (g k)] 61));go_wp2_with fail;refine(zJK (f k) (g k) _).mono ?_;rintro e w1 ⟨⟨t,rfl,ht⟩,dA⟩;have eA:=zA gA dA;clear dA gA q0 q1;by_cases bA:zEi (f k) (g k)
    ·have Hk:=zT bA;obtain rfl:t=true:=ht.2 bA;clear ht bA;go_wp2;go_roundw
     case rel=>exact⟨k+1,by omega,by go_num,zr fA aA.out Hk.out,eA⟩
     case measure=>simp[intOf];omega
    ·have Hk:=zT bA;obtain rfl:t=false:=zW ht bA;clear ht bA;go_wp2;go_ret;exact⟨zG.no fun h=>Hk.out (h.2.1 k fA),eA⟩
   ·obtain rfl:k=n:=(by omega);go_wp2_with fail;refine(zEC _ k lo hi f g _ (Hp.out.zO9 hb) hn aA.out).mono ?_;rintro e w1 ⟨rfl,hm,dA⟩;have eA:=zA hb dA;have Hm:=zT hm;have mA:=zFc f g k;clear hm dA;obtain⟨nA,iA⟩:=mA;have jA:=zT iA;clear iA;go_wp2_with (first
     | (at_len;refine wpList_len_own _ rfl _ 243 rfl 2 2 zNR _ wr.heap.size k _ rfl Hm.out ?_)
     | go_in)
    go_ret;refine⟨⟨_,rfl,?_⟩,eA⟩;have Ho:=jA.out;have Ha:=aA.out;simp only[beq_iff_eq,Int.natCast_inj];exact Ho.trans ⟨fun h=>⟨hn,Ha,h⟩,fun h=>h.2.2⟩
 ·have lA:(200:Int)<(n:Int):=(by omega);go_enter Tryz.func186,Tryz.ntmps186;go_wp2;go_ret;exact⟨zG.no fun h=>hn h.1,Below.refl _ _⟩
def zBM(n a b:Int):Prop:=a<=n/\n<=b
theorem zAm(n a b:Int)(w:World):Calls Tryz.prog 137 #[.int .i64 n,.int .i64 a,.int .i64 b] w fun e w'=>zG (zBM n a b) e/\w'=w:=by
 by_cases h1:a<=n
 ·by_cases h2:n<=b
  ·go_enter Tryz.func137,Tryz.ntmps137;go_wp2;go_ret;exact⟨zG.yes ⟨h1,h2⟩,rfl⟩
  ·go_enter Tryz.func137,Tryz.ntmps137;go_wp2;go_ret;exact⟨zG.no fun h=>by have:=h.2;omega,rfl⟩
 ·go_enter Tryz.func137,Tryz.ntmps137;go_wp2;go_ret;exact⟨zG.no fun h=>by have:=h.1;omega,rfl⟩
theorem yj(v:Value)(n lo hi:Nat)(f g:Nat->Int)(w:World)(h1:zR w lo hi v n f g) :
  Calls Tryz.prog 185 #[v] w fun e w'=>zG (qN n f g) e/\Below w.heap.size w w':=by
 have Hp:=zT h1;obtain⟨m1,a,c,rfl,mc,_⟩:=id h1;clear h1;unfold maxLen at m1;by_cases hn:n<=200
 ·have nA:¬(200:Int)<(n:Int):=(by omega);go_enter Tryz.func185,Tryz.ntmps185;go_wp2
  go_loopw [3] (fun i wr=>∃k:Nat,k<=n/\i = .int .i64 k/\(∀i,i<k->zEi (f i) (g i))/\zJT k f/\Below w.heap.size w wr) (fun i _=>n - (intOf i).toNat)
  case atStart=>exact⟨0,Nat.zero_le _,rfl,fun j hj=>absurd hj (Nat.not_lt_zero _),fun j hj=>absurd hj (Nat.not_lt_zero _),Below.refl _ _⟩
  case round=>
   obtain⟨k,hk,rfl,eA,bA,hb⟩:=hrel;have dA:=zT eA;have aA:=zT bA;clear eA bA;by_cases cA:k<n
   ·have mA:(k:Int)<(n:Int):=(by omega);obtain⟨b,off,rfl,q0,q1⟩:=(Hp.out.zO9 hb).zPC cA;by_cases hx:zBM (f k) 0 199
    ·have Hx:=zT hx;clear hx;by_cases hy:yI (g k)
     ·have Hy:=zT hy;clear hy;go_wp2_with (first
       | (go_at_call 137;refine(zAm (f k) 0 199 _).mono ?_;rintro e w1 ⟨⟨t,rfl,ht⟩,rfl⟩;obtain rfl:t=true:=ht.2 Hx.out;clear ht)
       | (go_at_call 145;refine(yg (g k) _).mono ?_;rintro e w2 ⟨⟨t,rfl,ht⟩,rfl⟩;obtain rfl:t=true:=ht.2 Hy.out;clear ht)
       | fail)
      go_wp2
      go_loopw [4] (fun i wr=>∃j:Nat,j<=k/\i = .int .i64 j/\(∀i,i<j->f i≠f k)/\Below w.heap.size w wr) (fun i _=>k - (intOf i).toNat)
      case atStart=>exact⟨0,Nat.zero_le _,rfl,fun j hj=>absurd hj (Nat.not_lt_zero _),hb⟩
      case round=>
       obtain⟨j,hj,rfl,jA,fA⟩:=hrel;have gA:=zT jA;clear jA q0 q1 hb;by_cases iA:j<k
       ·have kA:(j:Int)<(k:Int):=(by omega);have lA:(j:Int)<(n:Int):=(by omega);obtain⟨_,_,ha,r0,_⟩:=(Hp.out.zO9 fA).zPC (show j<n by omega);simp only[Option.some.injEq,Addr.mk.injEq,and_true]at ha;obtain⟨rfl,rfl⟩:=ha;obtain⟨_,_,ha,s0,_⟩:=(Hp.out.zO9 fA).zPC cA;simp only[Option.some.injEq,Addr.mk.injEq,and_true]at ha;obtain⟨rfl,rfl⟩:=ha;by_cases he:f j=f k
        ·have He:=zT he;have e0:(f j == f k)=true:=(by simp[he]);clear he;go_wp2
         go_quiet (fail)
         go_wp2;go_ret;exact⟨zG.no fun h=>h.2.2 k cA j iA He.out,zh fA _⟩
        ·have He:=zT he;have e0:(f j == f k)=false:=(by simp[he]);clear he;go_wp2
         go_quiet (fail)
         go_wp2;go_roundw
         case rel=>exact⟨j+1,by omega,by go_num,zr iA gA.out He.out,zh fA _⟩
         case measure=>simp[intOf];omega
       ·obtain rfl:j=k:=(by omega);go_wp2;go_roundw
        case rel=>exact⟨j+1,by omega,by go_num,zr cA dA.out ⟨Hx.out.1,Hx.out.2,Hy.out.1,Hy.out.2⟩,zFR.2 ⟨aA.out,gA.out⟩,fA⟩
        case measure=>simp[intOf];omega
     ·have Hy:=zT hy;clear hy;go_wp2_with (first
       | (go_at_call 137;refine(zAm (f k) 0 199 _).mono ?_;rintro e w1 ⟨⟨t,rfl,ht⟩,rfl⟩;obtain rfl:t=true:=ht.2 Hx.out;clear ht)
       | (go_at_call 145;refine(yg (g k) _).mono ?_;rintro e w2 ⟨⟨t,rfl,ht⟩,rfl⟩;obtain rfl:t=false:=zW ht Hy.out;clear ht)
       | fail)
      go_wp2;go_ret;exact⟨zG.no fun h=>Hy.out ⟨(h.2.1 k cA).2.2.1,(h.2.1 k cA).2.2.2⟩,hb⟩
    ·have Hx:=zT hx;clear hx;go_wp2_with (first
      | (go_at_call 137;refine(zAm (f k) 0 199 _).mono ?_;rintro e w1 ⟨⟨t,rfl,ht⟩,rfl⟩;obtain rfl:t=false:=zW ht Hx.out;clear ht)
      | fail)
     go_wp2;go_ret;exact⟨zG.no fun h=>Hx.out ⟨(h.2.1 k cA).1,(h.2.1 k cA).2.1⟩,hb⟩
   ·obtain rfl:k=n:=(by omega);go_wp2;go_ret;exact⟨zG.yes ⟨hn,dA.out,aA.out⟩,hb⟩
 ·have nA:(200:Int)<(n:Int):=(by omega);go_enter Tryz.func185,Tryz.ntmps185;go_wp2;go_ret;exact⟨zG.no fun h=>hn h.1,Below.refl _ _⟩
theorem zCe(v:Value)(n lo hi:Nat)(f g:Nat->Int)(x y:Int)(w:World)(h1:zR w lo hi v n f g) :
  Calls Tryz.prog 142 #[v,.agg #[.int .i64 x,.int .i64 y]] w fun e w'=>zG (PIn n f g x y) e/\Below w.heap.size w w':=by
 have Hp:=zT h1;obtain⟨m1,a,c,rfl,mc,_⟩:=id h1;unfold maxLen at m1;clear h1;have ha:=zC w (.cells #[.int .i64 x,.int .i64 y] 61);have HB:=zT (zp.new w (.int .i64 x) (.int .i64 y) 61);go_enter Tryz.func142,Tryz.ntmps142;go_wp2
 go_loopw [5] (fun i wr=>∃k:Nat,k<=n/\i = .int .i64 k/\¬PIn k f g x y/\zp wr w.heap.size (.int .i64 x) (.int .i64 y)/\Below w.heap.size w wr) (fun i _=>n - (intOf i).toNat)
 case atStart=>exact⟨0,Nat.zero_le _,rfl,fun ⟨j,hj,_⟩=>absurd hj (Nat.not_lt_zero _),HB.out,ha⟩
 case round=>
  obtain⟨k,hk,rfl,dA,hX,hb⟩:=hrel;have bA:=zT dA;have HX:=zT hX;clear dA hX;obtain⟨⟨x0,x1⟩,⟨x2,x3⟩⟩:=HX.out;by_cases cA:k<n
  ·have eA:(k:Int)<(n:Int):=(by omega);obtain⟨b,off,rfl,q0,q1⟩:=(Hp.out.zO9 hb).zPC cA;by_cases he:f k=x/\g k=y
   ·have H:=zT (show PIn n f g x y from⟨k,cA,he.1,he.2⟩);rw[he.1]at q0;rw[he.2]at q1;clear he;go_wp2
    go_quiet (fail)
    go_wp2;go_ret;exact⟨zG.yes H.out,zh hb _⟩
   ·have H:=zT he;have e0:(f k == x)=false\/(f k == x)=true/\(g k == y)=false:=by
     by_cases h:f k=x
     ·right;refine⟨by simp[h],?_⟩;have:g k≠y:=fun h'=>he ⟨h,h'⟩
      simp[this]
     ·left;simp[h]
    clear he;rcases e0 with e0 | ⟨e0,e1⟩
    all_goals
     go_wp2
     go_quiet (fail)
     go_wp2;go_roundw
     case rel=>
      refine⟨k+1,by omega,by go_num,?_,HX.out.zO9 (zh (Below.refl _ _) _),zh hb _⟩;rintro⟨j,hj,aA⟩;by_cases e:j=k
      ·subst e;exact H.out ⟨aA.1,aA.2⟩
      ·exact bA.out ⟨j,by omega,aA⟩
     case measure=>simp[intOf];omega
  ·obtain rfl:k=n:=(by omega);go_wp2;go_ret;exact⟨zG.no bA.out,hb⟩
theorem zFf(v v':Value)(n lo hi n' jA aA:Nat)(f g f' g':Nat->Int)(w:World)(h1:zR w lo hi v n f g)(h2:zR w jA aA v' n' f' g') :
  Calls Tryz.prog 143 #[v,v'] w fun e w'=>zG (zDJ n f g n' f' g') e/\Below w.heap.size w w':=by
 have Hp:=zT h1;have kA:=zT h2;obtain⟨m1,a,c,rfl,mc,_⟩:=id h1;obtain⟨m2,a',c',rfl,rA,_⟩:=id h2;unfold maxLen at m1 m2;clear h1 h2;by_cases ho:qN n f g
 ·have Ho:=zT ho;clear ho;by_cases iA:qN n' f' g'
  ·have dA:=zT iA;clear iA;go_enter Tryz.func143,Tryz.ntmps143;go_wp2_with fail;refine(yj _ n lo hi f g _ Hp.out).mono ?_;rintro e w1 ⟨⟨t,rfl,ht⟩,bA⟩;obtain rfl:t=true:=ht.2 Ho.out;clear ht;go_wp2_with fail;refine(yj _ n' jA aA f' g' _ (kA.out.zO9 bA)).mono ?_;rintro e w2 ⟨⟨t,rfl,ht⟩,fA⟩;obtain rfl:t=true:=ht.2 dA.out;have gA:=zA bA fA;clear ht bA fA;by_cases mA:n=n'
   ·subst mA;have e0:((n:Int) != (n:Int))=false:=(by simp);go_wp2
    go_loopw [5] (fun i wr=>∃k:Nat,k<=n/\i = .int .i64 k/\(∀i,i<k->PIn n f' g' (f i) (g i))/\Below w.heap.size w wr) (fun i _=>n - (intOf i).toNat)
    case atStart=>exact⟨0,Nat.zero_le _,rfl,fun j hj=>absurd hj (Nat.not_lt_zero _),gA⟩
    case round=>
     obtain⟨k,hk,rfl,eA,hb⟩:=hrel;have cA:=zT eA;clear eA;by_cases lA:k<n
     ·have pA:(k:Int)<(n:Int):=(by omega);obtain⟨b,off,rfl,q0,q1⟩:=(Hp.out.zO9 hb).zPC lA;go_wp2_with fail;refine(zCe _ n jA aA f' g' (f k) (g k) _ (kA.out.zO9 hb)).mono ?_;rintro e w3 ⟨⟨t,rfl,ht⟩,oA⟩;have nA:=zA hb oA;clear oA;by_cases aA:PIn n f' g' (f k) (g k)
      ·have Hi:=zT aA;obtain rfl:t=true:=ht.2 aA;clear ht aA;go_wp2;go_roundw
       case rel=>exact⟨k+1,by omega,by go_num,zr lA cA.out Hi.out,nA⟩
       case measure=>simp[intOf];omega
      ·have Hi:=zT aA;obtain rfl:t=false:=zW ht aA;clear ht aA;go_wp2;go_ret;exact⟨zG.no fun h=>Hi.out (h.2.2.2 k lA),nA⟩
     ·obtain rfl:k=n:=(by omega);go_wp2;go_ret;exact⟨zG.yes ⟨Ho.out,dA.out,rfl,cA.out⟩,hb⟩
   ·have e0:((n:Int) != (n':Int))=true:=(by simp;omega);have Hn:=zT mA;clear mA;go_wp2;go_ret;exact⟨zG.no fun h=>Hn.out h.2.2.1,gA⟩
  ·have dA:=zT iA;clear iA;go_enter Tryz.func143,Tryz.ntmps143;go_wp2_with fail;refine(yj _ n lo hi f g _ Hp.out).mono ?_;rintro e w1 ⟨⟨t,rfl,ht⟩,bA⟩;obtain rfl:t=true:=ht.2 Ho.out;clear ht;go_wp2_with fail;refine(yj _ n' jA aA f' g' _ (kA.out.zO9 bA)).mono ?_;rintro e w2 ⟨⟨t,rfl,ht⟩,fA⟩;obtain rfl:t=false:=zW ht dA.out;have gA:=zA bA fA;clear ht bA fA;go_wp2;go_ret;exact⟨zG.no fun h=>dA.out h.2.1,gA⟩
 ·have Ho:=zT ho;clear ho;go_enter Tryz.func143,Tryz.ntmps143;go_wp2_with fail;refine(yj _ n lo hi f g _ Hp.out).mono ?_;rintro e w1 ⟨⟨t,rfl,ht⟩,bA⟩;obtain rfl:t=false:=zW ht Ho.out;clear ht;go_wp2;go_ret;exact⟨zG.no fun h=>Ho.out h.1,bA⟩
theorem s1{α : Type}(l:List α)(i:Nat)(a:α):l.toArray.setIfInBounds i a=(l.set i a).toArray:=List.setIfInBounds_toArray ..
theorem s2{α : Type}(x:α)(l:List α)(a:α):(x :: l).set 0 a=a :: l:=rfl
theorem s3{α : Type}(x:α)(l:List α)(i:Nat)(a:α):(x :: l).set (i+1) a=x :: l.set i a:=rfl
def zLE:List Oper->Nat->Option Oper
 | [],_=>none
 | o :: _,0=>some o
 | _ :: l,n+1=>zLE l n
theorem zID:∀(l:List Oper) (i:Nat),l[i]?=zLE l i
 | [],_=>rfl
 | _ :: _,0=>rfl
 | _ :: l,n+1=>by simpa[zLE]using zID l n
theorem zCi{aA:Array Oper}{i:Nat}{o:Oper}(h:zLE aA.toList i=some o):aA[i]?=some o:=by
 rw[<-h,<-zID,Array.getElem?_toList]
section
variable {P : Program} {md : Region.Mode} {ops : Array Oper} {Q : Exit -> Act -> World -> Prop} {S : World -> Prop}
theorem tk(i:Nat){o:Oper}{v:Value}{bA:Nat}{aA l':Array Bool}{a a':Act}{w:World}(hi:zLE ops.toList i=some o:=by exact rfl)
  (hb:(Region.noSelect ops && (Region.free md ops aA i && (Region.ready md ops aA).contains i))=true:=by kernel_rfl)
  (hw:Region.wanted o (yielded ops a.tmps)=true:=by exact rfl) (hS:S w:=by assumption)
  (hy:∀w,S w->(execOp a.eval o).run P w = .ok (.value v) w:=by(intro w cA;(try dsimp only at cA);go_simp;try with_reducible rfl))
  (hl:aA.setIfInBounds i true=l':=by((try simp only[s1,s2,s3]);exact rfl))
  (ha:a.put o.dst v=a':=by((try simp only[Act.put,s1,s2,s3]);exact rfl))
  (hQ:∀c a w,Q (.panic c) (a.put o.dst v) w->Q (.panic c) a w:=by exact fun _ _ _ h=>h)
  (h:wpAnyH P md ops Q S bA l' a' w):wpAnyH P md ops Q S (bA+1) aA a w:=by
 simp only[Bool.and_eq_true]at hb;subst hl ha;exact wpAnyH_take (zCi hi) hb.1 hb.2.1 hb.2.2 hQ (Or.inl ⟨hw,hy⟩) hS h
theorem ts(i:Nat){o:Oper}{bA:Nat}{aA l':Array Bool}{a a':Act}{w:World}(hi:zLE ops.toList i=some o:=by exact rfl)
  (hb:(Region.noSelect ops && (Region.free md ops aA i && (Region.ready md ops aA).contains i))=true:=by kernel_rfl)
  (hw:Region.wanted o (yielded ops a.tmps)=false:=by exact rfl) (hS:S w:=by assumption)
  (hl:aA.setIfInBounds i true=l':=by((try simp only[s1,s2,s3]);exact rfl))
  (ha:a.put o.dst undef=a':=by((try simp only[Act.put,s1,s2,s3]);exact rfl))
  (hQ:∀c a w,Q (.panic c) (a.put o.dst undef) w->Q (.panic c) a w:=by exact fun _ _ _ h=>h)
  (h:wpAnyH P md ops Q S bA l' a' w):wpAnyH P md ops Q S (bA+1) aA a w:=by
 simp only[Bool.and_eq_true]at hb;subst hl ha;exact wpAnyH_take (zCi hi) hb.1 hb.2.1 hb.2.2 hQ (Or.inr ⟨hw,rfl⟩) hS h
theorem rd(rs:List Nat){bA:Nat}{aA:Array Bool}{a:Act}{w:World}(h:AllReadyH P md ops Q S bA aA a w rs)
  (hr:Region.ready md ops aA=rs:=by kernel_rfl) (cA:rs≠[]:=by simp):wpAnyH P md ops Q S (bA+1) aA a w:=wpAnyH_ready hr cA h
theorem rc{bA:Nat}{aA:Array Bool}{a:Act}{w:World}{i:Nat}{o:Oper}{rs:List Nat}
  (h:∀K':Act->World->Prop,Shut (∀a w,S w->(S w->wpAnyH P md ops Q S bA (aA.setIfInBounds i true) a w)->K' a w)->if Region.wanted o (yielded ops a.tmps)=true then Oper.wp P o a w K' Q else K' (a.put o.dst undef) w)
  (hs:AllReadyH P md ops Q S bA aA a w rs) (ho:zLE ops.toList i=some o:=by exact rfl):AllReadyH P md ops Q S bA aA a w (i :: rs):=AllReadyH.cons (zCi ho) h hs
end
end Go.Proofs.YtmgeglgboadfiaaGreatDoor
