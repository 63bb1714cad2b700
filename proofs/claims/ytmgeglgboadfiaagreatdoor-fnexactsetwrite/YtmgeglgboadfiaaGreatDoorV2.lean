/- A node's Kids as an array of eight pointers: what impl.kidsOf, impl.kidFound and impl.kidsThere answer. -/
import Derived.Test.YtmgeglgboadfiaaGreatDoorV1
import Derived.Laws.CopyOwn
import Derived.Deep.RegionLaw
import Derived.Deep.WholeRow
import Derived.RegionTactic
import Derived.ChangeAlike
import Derived.BigRegion
import Derived.Maps.OwnSet
import Derived.Deep.RegionHeld
set_option linter.unusedVariables false
set_option maxRecDepth 20000
set_option maxHeartbeats 4000000
namespace Go.Proofs.YtmgeglgboadfiaaGreatDoor
open Go.RowKit
theorem zEl{P:Program}(w:World)(dT sT ty elem:TypeId)(size g o bA eA:Nat)(a:Addr)(aA gA:Nat)(cA:Array Value)(t:TypeId)(cs:List Value)
  (hu:P.underlying dT=some (.slice elem)) (hs:(P.info? elem).map (·.size)=some size)
  (hg:w.heap[g]?=some (.cells cA t (0,0))) (hn:cs.length=Nat.min aA bA*size)
  (dA:∀j v,cs[j]?=some v->w.cell? (a.add j)=some v) (fA:o+cs.length<=cA.size) (h1:∀v∈cs,v.oneCell'=true) :
  (Builtin.copy_ #[dT,sT] ty #[.slice (some ⟨g,o,none⟩) bA eA,.slice (some a) aA gA]).run P w =
   .ok (goInt (Nat.min aA bA)) (w.setRow g (cA.toList.take o ++ cs ++ cA.toList.drop (o+cs.length)).toArray):=by
 have hl:=run_loadCells_list (P:=P) w a cs dA;have iA:=run_storeCells_at P g o t cs 0 cA w hg (by simpa using fA) h1;cases hq:P.info? elem with
 | none=>simp[hq]at hs
 | some i=>
  have hi:i.size=size:=(by simpa[hq]using hs);have e:Nat.min aA bA*i.size=cs.length:=(by rw[hi,hn]);simp[Builtin.copy_,run_underlying hu,Builtin.lenOf,Builtin.firstCells,sizeOf,typeInfo,hq,e,hl,iA]
theorem zJD{P:Program}(w:World)(dT sT ty elem:TypeId)(size:Nat)(d a:Option Addr)(bA aA cA:Nat)
  (hu:P.underlying dT=some (.slice elem)) (hs:(P.info? elem).map (·.size)=some size) :
  (Builtin.copy_ #[dT,sT] ty #[.slice d bA aA,.slice a 0 cA]).run P w = .ok (goInt 0) w:=by
 cases hq:P.info? elem with
 | none=>simp[hq]at hs
 | some i=>
  cases a with
  | none=>cases d<;>simp[Builtin.copy_,run_underlying hu,Builtin.lenOf,Builtin.firstCells,sizeOf,typeInfo,hq,storeCells]
  | some a=>cases d<;>simp[Builtin.copy_,run_underlying hu,Builtin.lenOf,Builtin.firstCells,sizeOf,typeInfo,hq,storeCells,loadCells,loadCellsFrom]
def zj(s:zL)(j:Nat):Int:=if j / 2<s.kn then(if j % 2=0 then s.ks (j / 2)else s.kb (j / 2))else 0
def zp(f:Nat->Int):Array Value:=((List.range 16).map fun j=>Value.int .i64 (f j)).toArray
def qF(s:zL):Array Value:=zp (zj s)
theorem qB(f:Nat->Int):(zp f).size=16:=by simp[zp]
theorem yM(f:Nat->Int){j:Nat}(h:j<16):(zp f)[j]?=some (.int .i64 (f j)):=by simp[zp,h]
theorem zAt(f:Nat->Int):(zp f).all (·.oneCell')=true:=by
 unfold zp;rw[Array.all_eq_true_iff_forall_mem];intro v hv;simp at hv;obtain⟨j,_,rfl⟩:=hv;rfl
theorem zJw{f g:Nat->Int}(h:∀j,j<16->f j=g j):zp f=zp g:=by
 unfold zp;congr 1;apply List.map_congr_left;intro j hj;rw[h j (by simpa using hj)]
theorem zB4:(Tryz.prog.info? 155).map (·.size)=some 16:=by kernel_rfl
theorem zEZ:(Tryz.prog.info? 61).map (·.size)=some 2:=by kernel_rfl
theorem zHQ:Tryz.prog.underlying 155=some (.array 8 61):=by kernel_rfl
theorem zHB(w:World)(o1 o2 o3:Obj):(((w.alloc o1).alloc o2).alloc o3).heap[w.heap.size+1]?=some o2/\(((w.alloc o1).alloc o2).alloc o3).heap[w.heap.size+1+1]?=some o3/\w.heap.size+1+1<(((w.alloc o1).alloc o2).alloc o3).heap.size:=by
 refine⟨?_,?_,by simp⟩
 ·rw[Below.heap_alloc _ _ _ (by simp)];have:=heap_alloc_last (w.alloc o1) o2;rw[World.size_alloc]at this;exact this
 ·have:=heap_alloc_last ((w.alloc o1).alloc o2) o3;rw[World.size_alloc,World.size_alloc]at this;exact this
theorem zF.setRow(w:World)(g:Nat)(cs:Array Value):zF (fun k=>k=g) w (w.setRow g cs):=
 ⟨rfl,rfl,rfl,by simp[World.setRow],fun k _ hs=>setRow_other w g k cs hs⟩
theorem zH2{eA:Array Oper}{o:Oper}{a:Act}{w:World}{K:Act->World->Prop}{Q:Exit->Act->World->Prop}{E:Prop}(fA:o.guard=none)(d s:Operand)
  (ho:o.op = .call {callee:=.builtin .copy,args:=#[d,s],argTypes:=#[62,62]})
  (g:Nat) (ka:Option Addr) (kc:Nat) (sl:zL) (hd:a.eval d = .slice (some ⟨g,0,none⟩) 8 8) (hs:a.eval s = .slice ka sl.kn kc)
  (hg:w.heap[g]?=some (.cells (zp fun _=>0) 155 (0,0))) (hk:sl.kn=0\/(sl.kn=8/\∃b off,ka=some ⟨b,off,none⟩/\∀i,i<sl.kn->w.cell? ⟨b,off+i*2,none⟩=some (.int .i64 (sl.ks i))/\w.cell? ⟨b,off+i*2+1,none⟩=some (.int .i64 (sl.kb i))))
  (h:∀w' v,Hid (w'.heap[g]?=some (.cells (qF sl) 155 (0,0)))->zF (fun k=>k=g) w w'->K (a.put o.dst v) w') :
  if Region.wanted o (yielded eA a.tmps)=true then Oper.wp Tryz.prog o a w K Q else E:=by
 have hw:Region.wanted o (yielded eA a.tmps)=true:=by simp[Region.wanted,fA]
 rw[if_pos hw];have hu:Tryz.prog.underlying 62=some (.slice 61):=by kernel_rfl
 rcases hk with hk | ⟨hk,b,off,rfl,hc⟩
 ·rw[hk]at hs;have aA:=zJD (P:=Tryz.prog) w 62 62 o.type 61 2 (some ⟨g,0,none⟩) ka 8 8 kc hu zEZ;unfold Oper.wp;simp[execOp,ho,resolve,invoke,builtin,hd,hs,aA,Result.andThen];refine h _ _ ?_ (zF.refl _ _);show _=_;rw[hg];have:qF sl=zp (fun _=>0):=zJw fun j _=>by unfold zj;rw[if_neg (by omega)]
  rw[this]
 ·rw[hk]at hs;have aA:=zEl (P:=Tryz.prog) w 62 62 o.type 61 2 g 0 8 8 ⟨b,off,none⟩ 8 kc (zp fun _=>0) 155 (qF sl).toList hu zEZ hg (by simp[qF,zp]) (fun j v hj=>by
    have bA:j<16:=by
     have:=(List.getElem?_eq_some_iff.1 hj).1;simpa[qF,qB]using this
    have e:(qF sl).toList[j]?=some (.int .i64 (zj sl j)):=(by rw[Array.getElem?_toList];exact yM (zj sl) bA);rw[e]at hj;simp only[Option.some.injEq]at hj;subst hj;have cA:(⟨b,off,none⟩:Addr).add j=⟨b,off+j,none⟩:=(by unfold Addr.add;split<;>simp_all);rw[cA];unfold zj;rw[if_pos (by omega)];have dA:=hc (j / 2) (by omega);split
    ·rw[show off+j=off+j / 2*2 by omega];exact dA.1
    ·rw[show off+j=off+j / 2*2+1 by omega];exact dA.2) (by simp[qF,zp]) (fun v hv=>(Array.all_eq_true_iff_forall_mem.1 (zAt _)) v (by simpa[qF]using hv))
  unfold Oper.wp;simp[execOp,ho,resolve,invoke,builtin,hd,hs,aA,Result.andThen];refine h _ _ ?_ (zF.setRow _ _ _);show _=_;rw[setRow_heap w g _ _ 155 (0,0) hg];have e0:((zp fun _=>0).toList.drop 16) = []:=List.drop_eq_nil_of_le (by simp[zp]);simp[qF,qB,e0]
theorem zDf(v0 v1 v2:Value)(lo hi:Nat)(s:zL)(w:World)(h1:qG w lo hi v0 v1 v2 s)(hk:s.kn=0\/s.kn=8) :
  Calls Tryz.prog 162 #[.agg #[v0,v1,v2]] w fun e w'=>e = .returned (.agg (qF s))/\Below w.heap.size w w':=by
 obtain⟨rfl,⟨m1,a,c,rfl,mc,g1⟩,rfl,m2⟩:=h1;unfold maxLen at m1 m2;have G1:Hid (0<s.kn->∃b off,a=some ⟨b,off,none⟩/\lo<=b/\b<hi/\∀i,i<s.kn->w.cell? ⟨b,off+i*2,none⟩=some (.int .i64 (s.ks i))/\w.cell? ⟨b,off+i*2+1,none⟩=some (.int .i64 (s.kb i))):=g1;have Hk:Hid (s.kn=0\/s.kn=8):=hk;clear g1 hk;go_enter Tryz.func162,Tryz.ntmps162;go_wp2_with fail;obtain⟨W,hW⟩:∃W:World,W=((w.alloc (.cells #[.int .i64 s.zRi,.slice a s.kn c,.string s.data] 127)).alloc (.cells #[Value.int .i64 0,Value.int .i64 0,Value.int .i64 0,Value.int .i64 0,Value.int .i64 0,Value.int .i64 0,Value.int .i64 0,Value.int .i64 0,Value.int .i64 0,Value.int .i64 0,Value.int .i64 0,Value.int .i64 0,Value.int .i64 0,Value.int .i64 0,Value.int .i64 0,Value.int .i64 0] 155)).alloc (.cells #[Value.int .i64 0,Value.int .i64 0,Value.int .i64 0,Value.int .i64 0,Value.int .i64 0,Value.int .i64 0,Value.int .i64 0,Value.int .i64 0,Value.int .i64 0,Value.int .i64 0,Value.int .i64 0,Value.int .i64 0,Value.int .i64 0,Value.int .i64 0,Value.int .i64 0,Value.int .i64 0] 155):=⟨_,rfl⟩;have gA:(#[Value.int .i64 0,Value.int .i64 0,Value.int .i64 0,Value.int .i64 0,Value.int .i64 0,Value.int .i64 0,Value.int .i64 0,Value.int .i64 0,Value.int .i64 0,Value.int .i64 0,Value.int .i64 0,Value.int .i64 0,Value.int .i64 0,Value.int .i64 0,Value.int .i64 0,Value.int .i64 0]:Array Value)=zp (fun _=>0):=rfl;have hb:Below w.heap.size w W:=by rw[hW];exact zA (zA (zC _ _) (zC _ _)) (zC _ _)
 have Hx:Hid (yR W w.heap.size (.int .i64 s.zRi) (.slice a s.kn c) (.string s.data)):=by rw[hW];exact((yR.zRZ w _ _ _ _).zRX (zC _ _)).zRX (zC _ _)
 have cA:=zHB w (.cells #[.int .i64 s.zRi,.slice a s.kn c,.string s.data] 127) (.cells #[Value.int .i64 0,Value.int .i64 0,Value.int .i64 0,Value.int .i64 0,Value.int .i64 0,Value.int .i64 0,Value.int .i64 0,Value.int .i64 0,Value.int .i64 0,Value.int .i64 0,Value.int .i64 0,Value.int .i64 0,Value.int .i64 0,Value.int .i64 0,Value.int .i64 0,Value.int .i64 0] 155) (.cells #[Value.int .i64 0,Value.int .i64 0,Value.int .i64 0,Value.int .i64 0,Value.int .i64 0,Value.int .i64 0,Value.int .i64 0,Value.int .i64 0,Value.int .i64 0,Value.int .i64 0,Value.int .i64 0,Value.int .i64 0,Value.int .i64 0,Value.int .i64 0,Value.int .i64 0,Value.int .i64 0] 155);rw[<-hW]at cA;have HR:Hid (W.heap[w.heap.size+1]?=some (.cells (zp fun _=>0) 155 (0,0))):=cA.1;have HG:Hid (W.heap[w.heap.size+1+1]?=some (.cells (zp fun _=>0) 155 (0,0))):=cA.2.1;have kA:w.heap.size+1+1<W.heap.size:=cA.2.2;clear cA;have HC:Hid (s.kn=0\/(s.kn=8/\∃b off,a=some ⟨b,off,none⟩/\∀i,i<s.kn->W.cell? ⟨b,off+i*2,none⟩=some (.int .i64 (s.ks i))/\W.cell? ⟨b,off+i*2+1,none⟩=some (.int .i64 (s.kb i)))):=by
  rcases Hk.out with h | h
  ·exact Or.inl h
  ·obtain⟨b,off,ha,_,_,k1⟩:=G1.out (by omega);exact Or.inr ⟨h,b,off,ha,fun i hi=>⟨(hb.cell (zD (k1 i hi).1)).trans (k1 i hi).1,(hb.cell (zD (k1 i hi).2)).trans (k1 i hi).2⟩⟩
 rw[<-hW];clear hW gA;obtain⟨⟨x0,x1⟩,⟨x2,x3⟩,⟨x4,x5⟩⟩:=Hx.out
 go_region_law (refine zH2 rfl (.tmp 4) (.tmp 6) rfl (w.heap.size+1+1) a c s (by simp[Act.eval]) (by simp[Act.eval]) HG.out HC.out ?_;intro w1 cv jA dA)
 have fA:w1.heap[w.heap.size+1]?=some (.cells (zp fun _=>0) 155 (0,0)):=(dA.block _ (by show _<W.heap.size;omega) (by omega)).trans HR.out;have eA:Hid (w1.heap[w.heap.size+1]?=some (.cells (zp fun _=>0) 155 (0,0))):=fA;have iA:Below w.heap.size w w1:=hb.drew.trans (dA.zRX (by show _<=W.heap.size;omega) (by intro k hk;omega));clear fA dA x0 x1 x2 x3 x4 x5;have bA:(Tryz.prog.info? 155).map (·.size)=some (qF s).size:=by rw[qF,qB];exact zB4
 have aA:Hid ((Tryz.prog.info? 155).map (·.size)=some (qF s).size):=bA;clear bA;go_wp2_with (first
  | (refine wpList_load_row rfl 155 (.tmp 3) rfl (w.heap.size+1+1) rfl 155 (qF s) (0,0) _ jA.out zHQ rfl aA.out ?_)
  | (refine wpList_store_row rfl 155 (.tmp 2) (.tmp 8) rfl (w.heap.size+1) (qF s) rfl rfl 155 (zp fun _=>0) eA.out aA.out (by rw[qF,qB,qB]) (zAt _) ?_))
 refine bodyPost_ret (v:=.agg (qF s)) (results_cell_row (P:=Tryz.prog) (ty:=155) Tryz.results162 _ _ (w.heap.size+1) 155 (qF s) (0,0) _ rfl (setRow_heap _ _ _ _ _ _ eA.out) zHQ rfl aA.out) rfl ⟨rfl,?_⟩;exact below_setRow iA (by omega) _
def zAZ(n:Nat)(f:Nat->zL)(b ks kb rs rb:Int):Prop:=
 ∃ps pb,zBh n f ks ps pb/\(((zCM ks kb 0 0\/b<pb)/\rs=0/\rb=0)\/(¬(zCM ks kb 0 0\/b<pb)/\rs=ps/\rb=pb))
theorem zKI(v:Value)(n lo hi:Nat)(f:Nat->zL)(ks kb b:Int)(w:World)(h1:qA w lo hi v n f) :
  Calls Tryz.prog 221 #[v,.agg #[.int .i64 ks,.int .i64 kb],.int .i64 b] w fun e w'=>(∃rs rb,e = .returned (.agg #[.int .i64 rs,.int .i64 rb])/\zAZ n f b ks kb rs rb)/\Below w.heap.size w w':=by
 have Hi:Hid (qA w lo hi v n f):=h1;obtain⟨m1,a,c,rfl,mc,g1⟩:=h1;clear g1;have fA:Hid (Below w.heap.size w ((w.alloc (.cells #[.int .i64 ks,.int .i64 kb] 61)).alloc (.cells #[.int .i64 0,.int .i64 0] 61))):=zA (zC _ _) (zC _ _);go_enter Tryz.func221,Tryz.ntmps221;go_wp2_with fail;refine(zEw _ n lo hi f _ _ (Hi.out.zRX fA.out)).mono ?_;rintro e w1 ⟨⟨ps,pb,rfl,hp⟩,bA⟩;have Hp:Hid (zBh n f ks ps pb):=hp;have HX:Hid (zc w1 w.heap.size (.int .i64 ks) (.int .i64 kb)):=((zc.zRZ w _ _ _).zRX (zC _ _)).zRX bA;have HR:Hid (zc w1 (w.heap.size+1) (.int .i64 0) (.int .i64 0)):=by
  have:=(zc.zRZ (w.alloc (.cells #[.int .i64 ks,.int .i64 kb] 61)) (.int .i64 0) (.int .i64 0) 61).zRX bA;rw[World.size_alloc]at this;exact this
 have gA:=zA fA.out bA;have hz:w.heap.size<w1.heap.size:=HX.out.1.lt;have iA:w.heap.size+1<w1.heap.size:=HR.out.1.lt;clear hp bA;obtain⟨⟨x0,x1⟩,⟨x2,x3⟩⟩:=HX.out;obtain⟨⟨y0,y1⟩,⟨y2,y3⟩⟩:=HR.out;have HY:=fun u0 u1=>(HR.out.put u0 u1).zRX (zC _ (.cells #[.int .i64 ps,.int .i64 pb] 61))
 have dA:Hid (∀u0 u1,zc (((w1.setCell ⟨w.heap.size+1,0,none⟩ u0).setCell ⟨w.heap.size+1,1,none⟩ u1).alloc (.cells #[.int .i64 ps,.int .i64 pb] 61)) (w.heap.size+1) u0 u1):=HY;clear HY;have cA:Hid (∀u0 u1,Below w.heap.size w (((w1.setCell ⟨w.heap.size+1,0,none⟩ u0).setCell ⟨w.heap.size+1,1,none⟩ u1).alloc (.cells #[.int .i64 ps,.int .i64 pb] 61))):=fun u0 u1=>((gA.setCell (by show _<=w.heap.size+1;omega) _).setCell (by show _<=w.heap.size+1;omega) _).alloc (by simp;omega) _
 by_cases aA:zCM ks kb 0 0
 ·obtain⟨rfl,rfl⟩:=aA;have HK:Hid (zAZ n f b 0 0 0 0):=⟨ps,pb,Hp.out,Or.inl ⟨Or.inl ⟨rfl,rfl⟩,rfl,rfl⟩⟩;go_wp2;have hy:=dA.out (.int .i64 0) (.int .i64 0);refine bodyPost_ret (v:=.agg #[.int .i64 0,.int .i64 0]) (by simp[results,Tryz.results221,go_sem,hy.1.1,hy.2.1]) rfl ⟨⟨_,_,rfl,HK.out⟩,cA.out _ _⟩
 ·have HN:Hid (¬zCM ks kb 0 0):=aA;have e0:(ks == 0)=false\/(ks == 0)=true/\(kb == 0)=false:=by
   by_cases h:ks=0
   ·right;refine⟨by simp[h],?_⟩;have:kb≠0:=fun h'=>aA ⟨h,h'⟩
    simp[this]
   ·left;simp[h]
  clear aA;by_cases eA:b<pb
  ·have HK:Hid (zAZ n f b ks kb 0 0):=⟨ps,pb,Hp.out,Or.inl ⟨Or.inr eA,rfl,rfl⟩⟩;have hy:=dA.out (.int .i64 0) (.int .i64 0);have Hy:Hid (zc (((w1.setCell ⟨w.heap.size+1,0,none⟩ (.int .i64 0)).setCell ⟨w.heap.size+1,1,none⟩ (.int .i64 0)).alloc (.cells #[.int .i64 ps,.int .i64 pb] 61)) (w.heap.size+1) (.int .i64 0) (.int .i64 0)):=hy;clear hy;rcases e0 with e0 | ⟨e0,e1⟩
   all_goals
    go_wp2;have hy:=Hy.out;refine bodyPost_ret (v:=.agg #[.int .i64 0,.int .i64 0]) (by simp[results,Tryz.results221,go_sem,hy.1.1,hy.2.1]) rfl ⟨⟨_,_,rfl,HK.out⟩,cA.out _ _⟩
  ·have HK:Hid (zAZ n f b ks kb ps pb):=⟨ps,pb,Hp.out,Or.inr ⟨fun h=>by rcases h with h | h;exact HN.out h;exact eA h,rfl,rfl⟩⟩;rcases e0 with e0 | ⟨e0,e1⟩
   all_goals
    go_wp2;have hy:=dA.out (.int .i64 ps) (.int .i64 pb);refine bodyPost_ret (v:=.agg #[.int .i64 ps,.int .i64 pb]) (by simp[results,Tryz.results221,go_sem,hy.1.1,hy.2.1]) rfl ⟨⟨_,_,rfl,HK.out⟩,cA.out _ _⟩
def zAL(w:World)(v:Value)(n:Nat)(f:Nat->ByteArray):Prop:=
 n<=1000/\∃a c,v = .slice a n c/\(∀i,i<n->(f i).size<=maxLen)/\(0<n->∃b off,a=some ⟨b,off,none⟩/\∀i,i<n->w.cell? ⟨b,off+i,none⟩=some (.string (f i)))
theorem zAL.zRX{w w':World}{v:Value}{n:Nat}{f:Nat->ByteArray}(h:zAL w v n f)(t:Below w.heap.size w w'):zAL w' v n f:=by
 obtain⟨m,a,c,hv,hs,hx⟩:=h;refine⟨m,a,c,hv,hs,fun h0=>?_⟩;obtain⟨b,off,ha,hc⟩:=hx h0;exact⟨b,off,ha,fun i hi=>(t.cell (zD (hc i hi))).trans (hc i hi)⟩
theorem zAL.cells{w:World}{a:Option Addr}{c n:Nat}{f:Nat->ByteArray}(h:zAL w (.slice a n c) n f){i:Nat}(hi:i<n):∃b off,a=some ⟨b,off,none⟩/\w.cell? ⟨b,off+i,none⟩=some (.string (f i)):=by
 obtain⟨m,a0,c0,hv,hs,hx⟩:=h;simp only[Value.slice.injEq,true_and]at hv;obtain⟨rfl,rfl⟩:=hv;obtain⟨b,off,ha,hc⟩:=hx (by omega);exact⟨b,off,ha,hc i hi⟩
theorem zOO(s:ByteArray)(w:World)(hs:s.size<=maxLen):Calls Tryz.prog 164 #[.string s] w fun e w'=>zG (8000<s.size) e/\Below w.heap.size w w':=by
 unfold maxLen at hs;by_cases h:8000<s.size
 ·have h':(8000:Int)<(s.size:Int):=(by omega);have H:=zd h;clear h;go_enter Tryz.func164,Tryz.ntmps164;go_wp2;go_ret;exact⟨zG.yes H.out,Below.refl _ _⟩
 ·have h':¬(8000:Int)<(s.size:Int):=(by omega);have H:=zd h;clear h;go_enter Tryz.func164,Tryz.ntmps164;go_wp2;go_ret;exact⟨zG.no H.out,Below.refl _ _⟩
theorem zPN(s:ByteArray)(w:World)(hs:s.size<=maxLen):Calls Tryz.prog 166 #[.string s] w fun e w'=>zG (¬yI s) e/\Below w.heap.size w w':=by
 go_enter Tryz.func166,Tryz.ntmps166;go_wp2_with fail;refine(zD4 s w hs).mono ?_;rintro e w1 ⟨⟨t,rfl,ht⟩,rfl⟩;by_cases hf:yI s
 ·obtain rfl:t=true:=ht.2 hf;have HF:=zd hf;clear ht hf;go_wp2;go_ret;exact⟨zG.no (fun h=>h HF.out),Below.refl _ _⟩
 ·obtain rfl:t=false:=zQ ht hf;have HF:=zd hf;clear ht hf;go_wp2;go_ret;exact⟨zG.yes HF.out,Below.refl _ _⟩
theorem zLG(v:Value)(n:Nat)(f:Nat->ByteArray)(w:World)(h:zAL w v n f) :
  Calls Tryz.prog 201 #[v,.func (.func 164) #[] #[]] w fun e w'=>((∃i:Nat,i<n/\8000<(f i).size/\e = .returned (.int .i64 (i:Int)))\/((∀j,j<n->¬8000<(f j).size)/\e = .returned (.int .i64 (-1))))/\Below w.heap.size w w':=by
 have Hp:=zd h;obtain⟨m1,a,c,rfl,hs,-⟩:=h;have Hs:=zd hs;clear hs;go_enter Tryz.func201,Tryz.ntmps201;go_wp2
 go_loopw [8] (fun i wr=>∃k:Nat,k<=n/\i = .int .i64 k/\(∀j,j<k->¬8000<(f j).size)/\Below w.heap.size w wr) (fun i _=>n - (intOf i).toNat)
 case atStart=>exact⟨0,Nat.zero_le _,rfl,fun j hj=>absurd hj (Nat.not_lt_zero _),Below.refl _ _⟩
 case round=>
  obtain⟨k,hk,rfl,bA,hb⟩:=hrel;have aA:=zd bA;clear bA;by_cases cA:k<n
  ·have fA:(k:Int)<(n:Int):=(by omega);obtain⟨b,off,rfl,q0⟩:=(Hp.out.zRX hb).cells cA;have gA:=Hs.out k cA;go_wp2_with fail;refine(zOO (f k) _ gA).mono ?_;rintro e w1 ⟨⟨t,rfl,ht⟩,eA⟩;have dA:=zA hb eA;clear eA q0;by_cases hf:8000<(f k).size
   ·obtain rfl:t=true:=ht.2 hf;have HF:=zd hf;clear ht hf;go_wp2;go_ret;exact⟨Or.inl ⟨k,cA,HF.out,rfl⟩,dA⟩
   ·obtain rfl:t=false:=zQ ht hf;have HF:=zd hf;clear ht hf;go_wp2;go_roundw
    case rel=>
     refine⟨k+1,by omega,by go_num,fun j hj=>?_,dA⟩;by_cases e:j=k
     ·subst e;exact HF.out
     ·exact aA.out j (by omega)
    case measure=>simp[intOf];omega
  ·obtain rfl:k=n:=(by omega);go_wp2;go_ret;exact⟨Or.inr ⟨aA.out,rfl⟩,hb⟩
theorem zNw(v:Value)(n:Nat)(f:Nat->ByteArray)(w:World)(h:zAL w v n f) :
  Calls Tryz.prog 163 #[v,.func (.func 164) #[] #[]] w fun e w'=>zG (∃i,i<n/\8000<(f i).size) e/\Below w.heap.size w w':=by
 have Hp:=zd h;obtain⟨m1,a,c,rfl,hs,-⟩:=h;go_enter Tryz.func163,Tryz.ntmps163;go_wp2_with fail;refine(zLG _ n f w Hp.out).mono ?_;rintro e w1 ⟨hr,aA⟩;rcases hr with⟨i,hi,hP,rfl⟩ | ⟨bA,rfl⟩
 ·have HP:=zd (show ∃i,i<n/\8000<(f i).size from⟨i,hi,hP⟩);have h0:(0:Int)<=(i:Int):=(by omega);clear hP;go_wp2;go_ret;exact⟨zG.yes HP.out,aA⟩
 ·have HP:=zd bA;clear bA;go_wp2;go_ret;exact⟨zG.no fun ⟨i,hi,hq⟩=>HP.out i hi hq,aA⟩
theorem zMF(v:Value)(n:Nat)(f:Nat->ByteArray)(w:World)(h:zAL w v n f) :
  Calls Tryz.prog 201 #[v,.func (.func 166) #[] #[]] w fun e w'=>((∃i:Nat,i<n/\¬yI (f i)/\e = .returned (.int .i64 (i:Int)))\/((∀j,j<n->¬¬yI (f j))/\e = .returned (.int .i64 (-1))))/\Below w.heap.size w w':=by
 have Hp:=zd h;obtain⟨m1,a,c,rfl,hs,-⟩:=h;have Hs:=zd hs;clear hs;go_enter Tryz.func201,Tryz.ntmps201;go_wp2
 go_loopw [8] (fun i wr=>∃k:Nat,k<=n/\i = .int .i64 k/\(∀j,j<k->¬¬yI (f j))/\Below w.heap.size w wr) (fun i _=>n - (intOf i).toNat)
 case atStart=>exact⟨0,Nat.zero_le _,rfl,fun j hj=>absurd hj (Nat.not_lt_zero _),Below.refl _ _⟩
 case round=>
  obtain⟨k,hk,rfl,bA,hb⟩:=hrel;have aA:=zd bA;clear bA;by_cases cA:k<n
  ·have fA:(k:Int)<(n:Int):=(by omega);obtain⟨b,off,rfl,q0⟩:=(Hp.out.zRX hb).cells cA;have gA:=Hs.out k cA;go_wp2_with fail;refine(zPN (f k) _ gA).mono ?_;rintro e w1 ⟨⟨t,rfl,ht⟩,eA⟩;have dA:=zA hb eA;clear eA q0;by_cases hf:¬yI (f k)
   ·obtain rfl:t=true:=ht.2 hf;have HF:=zd hf;clear ht hf;go_wp2;go_ret;exact⟨Or.inl ⟨k,cA,HF.out,rfl⟩,dA⟩
   ·obtain rfl:t=false:=zQ ht hf;have HF:=zd hf;clear ht hf;go_wp2;go_roundw
    case rel=>
     refine⟨k+1,by omega,by go_num,fun j hj=>?_,dA⟩;by_cases e:j=k
     ·subst e;exact HF.out
     ·exact aA.out j (by omega)
    case measure=>simp[intOf];omega
  ·obtain rfl:k=n:=(by omega);go_wp2;go_ret;exact⟨Or.inr ⟨aA.out,rfl⟩,hb⟩
theorem zOk(v:Value)(n:Nat)(f:Nat->ByteArray)(w:World)(h:zAL w v n f) :
  Calls Tryz.prog 163 #[v,.func (.func 166) #[] #[]] w fun e w'=>zG (∃i,i<n/\¬yI (f i)) e/\Below w.heap.size w w':=by
 have Hp:=zd h;obtain⟨m1,a,c,rfl,hs,-⟩:=h;go_enter Tryz.func163,Tryz.ntmps163;go_wp2_with fail;refine(zMF _ n f w Hp.out).mono ?_;rintro e w1 ⟨hr,aA⟩;rcases hr with⟨i,hi,hP,rfl⟩ | ⟨bA,rfl⟩
 ·have HP:=zd (show ∃i,i<n/\¬yI (f i)from⟨i,hi,hP⟩);have h0:(0:Int)<=(i:Int):=(by omega);clear hP;go_wp2;go_ret;exact⟨zG.yes HP.out,aA⟩
 ·have HP:=zd bA;clear bA;go_wp2;go_ret;exact⟨zG.no fun ⟨i,hi,hq⟩=>HP.out i hi hq,aA⟩
structure qD where
 name:ByteArray
 origin:Int
 zRh:Int
 rs:Int
 rb:Int
 dn:Nat
 ds:Nat->Int
 db:Nat->Int
structure zl where
 id:Int
 name:ByteArray
 set:ByteArray
 zRh:Int
 time:Int
 rs:Int
 rb:Int
 dn:Nat
 ds:Nat->Int
 db:Nat->Int
structure zH where
 zRd:zI
 time:Int
 next:Int
 sn:Nat
 zRg:Nat->qD
 pn:Nat
 zRe:Nat->zl
structure zBd (w:World) (b o lo hi:Nat) (vd:Value) (s:qD):Prop where
 c0:w.cell? ⟨b,o,none⟩=some (.string s.name)
 c1:w.cell? ⟨b,o+1,none⟩=some (.int .i64 s.origin)
 c2:w.cell? ⟨b,o+2,none⟩=some (.int .i64 s.zRh)
 c3:w.cell? ⟨b,o+3,none⟩=some (.int .i64 s.rs)
 c4:w.cell? ⟨b,o+4,none⟩=some (.int .i64 s.rb)
 c5:w.cell? ⟨b,o+5,none⟩=some vd
 zRl:zU w lo hi vd s.dn s.ds s.db
 zRn:s.name.size<=maxLen
theorem zBd.zRX{w w':World}{b o lo hi:Nat}{vd:Value}{s:qD}(h:zBd w b o lo hi vd s)(t:Below w.heap.size w w'):zBd w' b o lo hi vd s:=
 ⟨(t.cell (zD h.c0)).trans h.c0,(t.cell (zD h.c1)).trans h.c1,(t.cell (zD h.c2)).trans h.c2,(t.cell (zD h.c3)).trans h.c3,(t.cell (zD h.c4)).trans h.c4,(t.cell (zD h.c5)).trans h.c5,h.zRl.zRX t,h.zRn⟩
structure zAo (w:World) (b o lo hi:Nat) (vd:Value) (s:zl):Prop where
 c0:w.cell? ⟨b,o,none⟩=some (.int .i64 s.id)
 c1:w.cell? ⟨b,o+1,none⟩=some (.string s.name)
 c2:w.cell? ⟨b,o+2,none⟩=some (.string s.set)
 c3:w.cell? ⟨b,o+3,none⟩=some (.int .i64 s.zRh)
 c4:w.cell? ⟨b,o+4,none⟩=some (.int .i64 s.time)
 c5:w.cell? ⟨b,o+5,none⟩=some (.int .i64 s.rs)
 c6:w.cell? ⟨b,o+6,none⟩=some (.int .i64 s.rb)
 c7:w.cell? ⟨b,o+7,none⟩=some vd
 zRl:zU w lo hi vd s.dn s.ds s.db
 zRn:s.name.size<=maxLen/\s.set.size<=maxLen
theorem zAo.zRX{w w':World}{b o lo hi:Nat}{vd:Value}{s:zl}(h:zAo w b o lo hi vd s)(t:Below w.heap.size w w'):zAo w' b o lo hi vd s:=
 ⟨(t.cell (zD h.c0)).trans h.c0,(t.cell (zD h.c1)).trans h.c1,(t.cell (zD h.c2)).trans h.c2,(t.cell (zD h.c3)).trans h.c3,(t.cell (zD h.c4)).trans h.c4,(t.cell (zD h.c5)).trans h.c5,(t.cell (zD h.c6)).trans h.c6,(t.cell (zD h.c7)).trans h.c7,h.zRl.zRX t,h.zRn⟩
def yW(w:World)(lo hi:Nat)(v:Value)(n:Nat)(f:Nat->qD):Prop:=
 n<=maxLen/\∃a cap,v = .slice a n cap/\n<=cap/\(0<n->∃b off,a=some ⟨b,off,none⟩/\lo<=b/\b<hi/\∀i,i<n->∃vd,zBd w b (off+i*6) lo hi vd (f i))
def qu(w:World)(lo hi:Nat)(v:Value)(n:Nat)(f:Nat->zl):Prop:=
 n<=maxLen/\∃a cap,v = .slice a n cap/\n<=cap/\(0<n->∃b off,a=some ⟨b,off,none⟩/\lo<=b/\b<hi/\∀i,i<n->∃vd,zAo w b (off+i*8) lo hi vd (f i))
theorem yW.zRX{w w':World}{lo hi:Nat}{v:Value}{n:Nat}{f:Nat->qD}(h:yW w lo hi v n f)(t:Below w.heap.size w w'):yW w' lo hi v n f:=by
 obtain⟨h0,a,bA,hv,aA,hc⟩:=h;refine⟨h0,a,bA,hv,aA,fun hn=>?_⟩;obtain⟨b,off,ha,h1,h2,h3⟩:=hc hn;refine⟨b,off,ha,h1,h2,fun i hi=>?_⟩;obtain⟨vd,hs⟩:=h3 i hi;exact⟨vd,hs.zRX t⟩
theorem qu.zRX{w w':World}{lo hi:Nat}{v:Value}{n:Nat}{f:Nat->zl}(h:qu w lo hi v n f)(t:Below w.heap.size w w'):qu w' lo hi v n f:=by
 obtain⟨h0,a,bA,hv,aA,hc⟩:=h;refine⟨h0,a,bA,hv,aA,fun hn=>?_⟩;obtain⟨b,off,ha,h1,h2,h3⟩:=hc hn;refine⟨b,off,ha,h1,h2,fun i hi=>?_⟩;obtain⟨vd,hs⟩:=h3 i hi;exact⟨vd,hs.zRX t⟩
theorem yW.cells{w:World}{lo hi:Nat}{a:Option Addr}{n c:Nat}{f:Nat->qD}(h:yW w lo hi (.slice a n c) n f){i:Nat}(hi':i<n):∃b off vd,a=some ⟨b,off,none⟩/\zBd w b (off+i*6) lo hi vd (f i):=by
 obtain⟨h0,a2,bA,hv,aA,hx⟩:=h;simp only[Value.slice.injEq,true_and]at hv;obtain⟨rfl,rfl⟩:=hv;obtain⟨b,off,ha,h1,h2,h3⟩:=hx (by omega);obtain⟨vd,hs⟩:=h3 i hi';exact⟨b,off,vd,ha,hs⟩
theorem qu.cells{w:World}{lo hi:Nat}{a:Option Addr}{n c:Nat}{f:Nat->zl}(h:qu w lo hi (.slice a n c) n f){i:Nat}(hi':i<n):∃b off vd,a=some ⟨b,off,none⟩/\zAo w b (off+i*8) lo hi vd (f i):=by
 obtain⟨h0,a2,bA,hv,aA,hx⟩:=h;simp only[Value.slice.injEq,true_and]at hv;obtain⟨rfl,rfl⟩:=hv;obtain⟨b,off,ha,h1,h2,h3⟩:=hx (by omega);obtain⟨vd,hs⟩:=h3 i hi';exact⟨b,off,vd,ha,hs⟩
structure zk (w:World) (lo hi:Nat) (v0 v1 v2 v3:Value) (W:zH):Prop where
 zRd:zu w lo hi v0 v1 W.zRd
 zRg:yW w lo hi v2 W.sn W.zRg
 zRe:qu w lo hi v3 W.pn W.zRe
theorem zk.zRX{w w':World}{lo hi:Nat}{v0 v1 v2 v3:Value}{W:zH}(h:zk w lo hi v0 v1 v2 v3 W)(t:Below w.heap.size w w'):zk w' lo hi v0 v1 v2 v3 W:=⟨h.zRd.zRX t,h.zRg.zRX t,h.zRe.zRX t⟩
abbrev zz(v0 v1 v2 v3:Value)(W:zH):Value:=.agg #[v0,v1,.int .i64 W.time,.int .i64 W.next,v2,v3]
def qs(W:zH)(id:Int)(k:Nat):Prop:=k<W.pn/\(W.zRe k).id=id/\∀j,j<k->(W.zRe j).id≠id
def zGJ(W:zH)(name:ByteArray)(k:Nat):Prop:=k<W.sn/\(W.zRg k).name=name/\∀j,j<k->(W.zRg j).name≠name
theorem qs.uniq{W:zH}{id:Int}{i j:Nat}(h:qs W id i)(h':qs W id j):i=j:=by
 rcases Nat.lt_trichotomy i j with e | e | e
 ·exact absurd h.2.1 (h'.2.2 i e)
 ·exact e
 ·exact absurd h'.2.1 (h.2.2 j e)
theorem zGJ.uniq{W:zH}{name:ByteArray}{i j:Nat}(h:zGJ W name i)(h':zGJ W name j):i=j:=by
 rcases Nat.lt_trichotomy i j with e | e | e
 ·exact absurd h.2.1 (h'.2.2 i e)
 ·exact e
 ·exact absurd h'.2.1 (h.2.2 j e)
def zi(w:World)(b:Nat)(v0 v1 v2 v3 v4 v5:Value):Prop:=zW w b 0 v0/\zW w b 1 v1/\zW w b 2 v2/\zW w b 3 v3/\zW w b 4 v4/\zW w b 5 v5
theorem zi.zRX{w w':World}{b:Nat}{v0 v1 v2 v3 v4 v5:Value}(h:zi w b v0 v1 v2 v3 v4 v5)(t:Below w.heap.size w w'):zi w' b v0 v1 v2 v3 v4 v5:=⟨h.1.zRX t,h.2.1.zRX t,h.2.2.1.zRX t,h.2.2.2.1.zRX t,h.2.2.2.2.1.zRX t,h.2.2.2.2.2.zRX t⟩
theorem zi.zRf{S:Nat->Prop}{w w':World}{b:Nat}{v0 v1 v2 v3 v4 v5:Value}(h:zi w b v0 v1 v2 v3 v4 v5)(t:zF S w w')(hs:¬S b):zi w' b v0 v1 v2 v3 v4 v5:=⟨h.1.zRf t hs,h.2.1.zRf t hs,h.2.2.1.zRf t hs,h.2.2.2.1.zRf t hs,h.2.2.2.2.1.zRf t hs,h.2.2.2.2.2.zRf t hs⟩
theorem zi.zRZ(w:World)(v0 v1 v2 v3 v4 v5:Value)(t:TypeId):zi (w.alloc (.cells #[v0,v1,v2,v3,v4,v5] t)) w.heap.size v0 v1 v2 v3 v4 v5:=by
 have hb:(w.alloc (.cells #[v0,v1,v2,v3,v4,v5] t)).heap[w.heap.size]?=some (.cells #[v0,v1,v2,v3,v4,v5] t):=heap_alloc_new _ _;exact⟨zJ hb rfl,zJ hb rfl,zJ hb rfl,zJ hb rfl,zJ hb rfl,zJ hb rfl⟩
abbrev put6(w:World)(b:Nat)(u0 u1 u2 u3 u4 u5:Value):World:=(((((w.setCell ⟨b,0,none⟩ u0).setCell ⟨b,1,none⟩ u1).setCell ⟨b,2,none⟩ u2).setCell ⟨b,3,none⟩ u3).setCell ⟨b,4,none⟩ u4).setCell ⟨b,5,none⟩ u5
theorem zi.put{w:World}{b:Nat}{v0 v1 v2 v3 v4 v5:Value}(h:zi w b v0 v1 v2 v3 v4 v5)(u0 u1 u2 u3 u4 u5:Value):zi (put6 w b u0 u1 u2 u3 u4 u5) b u0 u1 u2 u3 u4 u5:=by
 obtain⟨h0,h1,h2,h3,h4,h5⟩:=h;refine⟨?_,?_,?_,?_,?_,?_⟩
 ·exact(((((h0.set _).zRY _ (Or.inr (by omega))).zRY _ (Or.inr (by omega))).zRY _ (Or.inr (by omega))).zRY _ (Or.inr (by omega))).zRY _ (Or.inr (by omega))
 ·exact(((((h1.zRY _ (Or.inr (by omega))).set _).zRY _ (Or.inr (by omega))).zRY _ (Or.inr (by omega))).zRY _ (Or.inr (by omega))).zRY _ (Or.inr (by omega))
 ·exact(((((h2.zRY _ (Or.inr (by omega))).zRY _ (Or.inr (by omega))).set _).zRY _ (Or.inr (by omega))).zRY _ (Or.inr (by omega))).zRY _ (Or.inr (by omega))
 ·exact(((((h3.zRY _ (Or.inr (by omega))).zRY _ (Or.inr (by omega))).zRY _ (Or.inr (by omega))).set _).zRY _ (Or.inr (by omega))).zRY _ (Or.inr (by omega))
 ·exact(((((h4.zRY _ (Or.inr (by omega))).zRY _ (Or.inr (by omega))).zRY _ (Or.inr (by omega))).zRY _ (Or.inr (by omega))).set _).zRY _ (Or.inr (by omega))
 ·exact(((((h5.zRY _ (Or.inr (by omega))).zRY _ (Or.inr (by omega))).zRY _ (Or.inr (by omega))).zRY _ (Or.inr (by omega))).zRY _ (Or.inr (by omega))).set _
theorem zF.put6(w:World)(b:Nat)(u0 u1 u2 u3 u4 u5:Value):zF (fun k=>k=b) w (put6 w b u0 u1 u2 u3 u4 u5):=
 (((((zF.put w b 0 u0).trans (zF.put _ b 1 u1)).trans (zF.put _ b 2 u2)).trans (zF.put _ b 3 u3)).trans (zF.put _ b 4 u4)).trans (zF.put _ b 5 u5)
theorem zB{P:Prop}(h:P):Hid P:=h
def zFv(n:Nat)(P:Nat->Prop)(r:Int):Prop:=(∃k:Nat,k<n/\P k/\(∀j,j<k->¬P j)/\r=k)\/((∀j,j<n->¬P j)/\r = -1)
theorem qI(v0 v1 v2 v3:Value)(lo hi:Nat)(W:zH)(x:Int)(w:World)(h:zk w lo hi v0 v1 v2 v3 W) :
  Calls Tryz.prog 49 #[zz v0 v1 v2 v3 W,.int .i64 x] w fun e w'=>∃r:Int,e = .returned (.int .i64 r)/\zFv W.pn (fun k=>(W.zRe k).id=x) r/\Below w.heap.size w w':=by
 have Hp:=zB h.zRe;obtain⟨m1,a,c,rfl,mc,_⟩:=id h.zRe;unfold maxLen at m1;clear h;have ha:=zC w (.cells #[v0,v1,.int .i64 W.time,.int .i64 W.next,v2,.slice a W.pn c] 37);have HB:=zB (zi.zRZ w v0 v1 (.int .i64 W.time) (.int .i64 W.next) v2 (.slice a W.pn c) 37);go_enter Tryz.func49,Tryz.ntmps49;go_wp2
 go_loopw [5] (fun i wr=>∃k:Nat,k<=W.pn/\i = .int .i64 k/\(∀j,j<k->¬(W.zRe j).id=x)/\zi wr w.heap.size v0 v1 (.int .i64 W.time) (.int .i64 W.next) v2 (.slice a W.pn c)/\Below w.heap.size w wr) (fun i _=>W.pn - (intOf i).toNat)
 case atStart=>exact⟨0,Nat.zero_le _,rfl,fun j hj=>absurd hj (Nat.not_lt_zero _),HB.out,ha⟩
 case round=>
  obtain⟨k,hk,rfl,bA,hX,hb⟩:=hrel;have aA:=zB bA;have HX:=zB hX;clear bA hX;obtain⟨⟨x0,x1⟩,⟨x2,x3⟩,⟨x4,x5⟩,⟨x6,x7⟩,⟨x8,x9⟩,⟨eA,fA⟩⟩:=HX.out;by_cases cA:k<W.pn
  ·have dA:(k:Int)<(W.pn:Int):=(by omega);obtain⟨b,off,vd,rfl,hs⟩:=(Hp.out.zRX hb).cells cA;have q0:=hs.c0;clear hs;by_cases he:(W.zRe k).id=x
   ·have H:=zB he;rw[he]at q0;clear he;go_wp2;go_ret;exact⟨k,rfl,Or.inl ⟨k,cA,H.out,aA.out,rfl⟩,hb⟩
   ·have H:=zB he;have e0:((W.zRe k).id == x)=false:=(by simp[he]);clear he;go_wp2;go_roundw
    case rel=>
     refine⟨k+1,by omega,by go_num,?_,HX.out,hb⟩;intro j hj;by_cases e:j=k
     ·subst e;exact H.out
     ·exact aA.out j (by omega)
    case measure=>simp[intOf];omega
  ·obtain rfl:k=W.pn:=(by omega);go_wp2;go_ret;exact⟨-1,rfl,Or.inr ⟨aA.out,rfl⟩,hb⟩
theorem zIh(v0 v1 v2 v3:Value)(lo hi:Nat)(W:zH)(x:ByteArray)(w:World)(h:zk w lo hi v0 v1 v2 v3 W) :
  Calls Tryz.prog 27 #[zz v0 v1 v2 v3 W,.string x] w fun e w'=>∃r:Int,e = .returned (.int .i64 r)/\zFv W.sn (fun k=>(W.zRg k).name=x) r/\Below w.heap.size w w':=by
 have Hp:=zB h.zRg;obtain⟨m1,a,c,rfl,mc,_⟩:=id h.zRg;unfold maxLen at m1;clear h;have ha:=zC w (.cells #[v0,v1,.int .i64 W.time,.int .i64 W.next,.slice a W.sn c,v3] 37);have HB:=zB (zi.zRZ w v0 v1 (.int .i64 W.time) (.int .i64 W.next) (.slice a W.sn c) v3 37);go_enter Tryz.func27,Tryz.ntmps27;go_wp2
 go_loopw [5] (fun i wr=>∃k:Nat,k<=W.sn/\i = .int .i64 k/\(∀j,j<k->¬(W.zRg j).name=x)/\zi wr w.heap.size v0 v1 (.int .i64 W.time) (.int .i64 W.next) (.slice a W.sn c) v3/\Below w.heap.size w wr) (fun i _=>W.sn - (intOf i).toNat)
 case atStart=>exact⟨0,Nat.zero_le _,rfl,fun j hj=>absurd hj (Nat.not_lt_zero _),HB.out,ha⟩
 case round=>
  obtain⟨k,hk,rfl,bA,hX,hb⟩:=hrel;have aA:=zB bA;have HX:=zB hX;clear bA hX;obtain⟨⟨x0,x1⟩,⟨x2,x3⟩,⟨x4,x5⟩,⟨x6,x7⟩,⟨x8,x9⟩,⟨eA,fA⟩⟩:=HX.out;by_cases cA:k<W.sn
  ·have dA:(k:Int)<(W.sn:Int):=(by omega);obtain⟨b,off,vd,rfl,hs⟩:=(Hp.out.zRX hb).cells cA;have q0:=hs.c0;clear hs;by_cases he:(W.zRg k).name=x
   ·have H:=zB he;rw[he]at q0;clear he;go_wp2;go_ret;exact⟨k,rfl,Or.inl ⟨k,cA,H.out,aA.out,rfl⟩,hb⟩
   ·have H:=zB he;have e0:((W.zRg k).name.toList == x.toList)=false:=zEP he;clear he;go_wp2;go_roundw
    case rel=>
     refine⟨k+1,by omega,by go_num,?_,HX.out,hb⟩;intro j hj;by_cases e:j=k
     ·subst e;exact H.out
     ·exact aA.out j (by omega)
    case measure=>simp[intOf];omega
  ·obtain rfl:k=W.sn:=(by omega);go_wp2;go_ret;exact⟨-1,rfl,Or.inr ⟨aA.out,rfl⟩,hb⟩
def zKm(W:zH)(x s b t:Int):Prop:=(∃k,x≠0/\qs W x k/\s=(W.zRe k).rs/\b=(W.zRe k).rb/\t=(W.zRe k).time)\/((x=0\/∀k,k<W.pn->(W.zRe k).id≠x)/\s=0/\b=0/\t=0)
theorem zAw(v0 v1 v2 v3:Value)(lo hi:Nat)(W:zH)(x:Int)(w:World)(h:zk w lo hi v0 v1 v2 v3 W) :
  Calls Tryz.prog 52 #[zz v0 v1 v2 v3 W,.int .i64 x] w fun e w'=>∃s b t:Int,e = .returned (.tuple #[.agg #[.int .i64 s,.int .i64 b],.int .i64 t])/\zKm W x s b t/\Below w.heap.size w w':=by
 have Hp:=zB h;obtain⟨m1,a,c,rfl,mc,_⟩:=id h.zRe;unfold maxLen at m1;clear h;have ha:=zC w (.cells #[v0,v1,.int .i64 W.time,.int .i64 W.next,v2,.slice a W.pn c] 37);have hB:=zi.zRZ w v0 v1 (.int .i64 W.time) (.int .i64 W.next) v2 (.slice a W.pn c) 37;have eA:=zC (w.alloc (.cells #[v0,v1,.int .i64 W.time,.int .i64 W.next,v2,.slice a W.pn c] 37)) (.cells #[.int .i64 0,.int .i64 0] 61);have hR:=zc.zRZ (w.alloc (.cells #[v0,v1,.int .i64 W.time,.int .i64 W.next,v2,.slice a W.pn c] 37)) (.int .i64 0) (.int .i64 0) 61;have dA:=hB.zRX eA;have aA:=zA ha eA;have jA:(w.alloc (.cells #[v0,v1,.int .i64 W.time,.int .i64 W.next,v2,.slice a W.pn c] 37)).heap.size=w.heap.size+1:=World.size_alloc _ _;rw[jA]at hR;clear ha eA hB;go_enter Tryz.func52,Tryz.ntmps52;go_wp2_with fail;generalize ((w.alloc (.cells #[v0,v1,.int .i64 W.time,.int .i64 W.next,v2,.slice a W.pn c] 37)).alloc (.cells #[.int .i64 0,.int .i64 0] 61))=W0 at hR dA aA ⊢;refine(qI v0 v1 v2 _ lo hi W x W0 (Hp.out.zRX aA)).mono ?_;rintro e w1 ⟨r,rfl,hF,cA⟩;have fA:=hR.zRX cA;have gA:=dA.zRX cA;have bA:=zA aA cA;clear hR dA aA cA jA;have HR:=zB fA;have HX:=zB gA;clear fA gA;obtain⟨⟨y0,y1⟩,⟨y2,y3⟩⟩:=HR.out;obtain⟨⟨x0,x1⟩,⟨x2,x3⟩,⟨x4,x5⟩,⟨x6,x7⟩,⟨x8,x9⟩,⟨rA,sA⟩⟩:=HX.out;by_cases hx:x=0
 ·subst hx;clear hF;go_wp2;refine bodyPost_ret (v:=.tuple #[.agg #[.int .i64 0,.int .i64 0],.int .i64 0]) (by simp[results,Tryz.results52,go_sem,y0,y2]) rfl ⟨0,0,0,rfl,Or.inr ⟨Or.inl rfl,rfl,rfl,rfl⟩,?_⟩;exact(bA.setCell (by show w.heap.size<=w.heap.size+1;omega) _).setCell (by show w.heap.size<=w.heap.size+1;omega) _
 ·have Hx:=zB hx;have f0:(x == 0)=false:=(by simp[hx]);clear hx;rcases hF with⟨k,hk,hi',hm,rfl⟩ | ⟨hn,rfl⟩
  ·obtain⟨b,off,vd,rfl,hs⟩:=(Hp.out.zRe.zRX bA).cells hk;have q4:=hs.c4;have q5:=hs.c5;have q6:=hs.c6;have tA:(k:Int)<(W.pn:Int):=(by omega);have lA:b<w.heap.size:=by
    obtain⟨b2,kA,oA,e2,nA⟩:=Hp.out.zRe.cells hk;cases e2;exact zD nA.c0
   have pA:b≠w.heap.size+1:=(by omega);have mA:w.heap.size≠w.heap.size+1:=(by omega);have Hk:=zB (And.intro hi' hm);clear hs hi' hm lA;have iA:w.heap.size<=w.heap.size+1:=(by omega);generalize w.heap.size+1=R at *;go_wp2;go_region;go_wp2;refine bodyPost_ret (v:=.tuple #[.agg #[.int .i64 (W.zRe k).rs,.int .i64 (W.zRe k).rb],.int .i64 (W.zRe k).time]) (by simp[results,Tryz.results52,go_sem,y0,y2]) rfl ⟨_,_,_,rfl,Or.inl ⟨k,Hx.out,⟨hk,Hk.out.1,Hk.out.2⟩,rfl,rfl,rfl⟩,?_⟩;exact((bA.setCell iA _).setCell iA _).drew
  ·have Hn:=zB hn;clear hn;go_wp2;refine bodyPost_ret (v:=.tuple #[.agg #[.int .i64 0,.int .i64 0],.int .i64 0]) (by simp[results,Tryz.results52,go_sem,y0,y2]) rfl ⟨0,0,0,rfl,Or.inr ⟨Or.inr Hn.out,rfl,rfl,rfl⟩,?_⟩;exact(bA.setCell (by show w.heap.size<=w.heap.size+1;omega) _).setCell (by show w.heap.size<=w.heap.size+1;omega) _
open Go.Maps
def zCE(t:Int):Prop:=0<=t/\t<=1000000
def zFD(s b:Int):Prop:=0<=s/\s<=199/\1<=b/\b<=1000000
def zMA(n:Nat)(f:Nat->Int):Prop:=∀i,i<n->∀k,k<i->f k≠f i
def qm(n:Nat)(f g:Nat->Int):Prop:=n<=200/\(∀i,i<n->zFD (f i) (g i))/\zMA n f
def PIn(n:Nat)(f g:Nat->Int)(x y:Int):Prop:=∃j,j<n/\f j=x/\g j=y
def zES(n:Nat)(f g:Nat->Int)(m:Nat)(f' g':Nat->Int):Prop:=qm n f g/\qm m f' g'/\n=m/\∀i,i<n->PIn m f' g' (f i) (g i)
theorem zMA.inj{n:Nat}{f:Nat->Int}(h:zMA n f){i k:Nat}(hi:i<n)(hk:k<n)(e:f i=f k):i=k:=by
 rcases Nat.lt_trichotomy i k with h1 | h1 | h1
 ·exact absurd e (h k hk i h1)
 ·exact h1
 ·exact absurd e.symm (h i hi k h1)
theorem zNg:∀(n m:Nat) (h:Nat->Nat),(∀i,i<n->h i<m)->(∀i k,i<n->k<n->h i=h k->i=k)->n<=m
 | 0,_,_,_,_=>Nat.zero_le _
 | n+1,m,h,h1,h2=>by
  have hm:=h1 n (Nat.lt_succ_self n);have:=zNg n (m - 1) (fun i=>if h i<h n then h i else h i - 1) (fun i hi=>by
   have:=h1 i (by omega);have:h i≠h n:=fun e=>by have:=h2 i n (by omega) (by omega) e;omega
   show(if h i<h n then h i else h i - 1)<m - 1;split<;>omega) (fun i k hi hk e=>by
   have a1:h i≠h n:=fun e=>by have:=h2 i n (by omega) (by omega) e;omega
   have a2:h k≠h n:=fun e=>by have:=h2 k n (by omega) (by omega) e;omega
   have e':(if h i<h n then h i else h i - 1)=(if h k<h n then h k else h k - 1):=e;refine h2 i k (by omega) (by omega) ?_;split at e'<;>split at e'<;>omega)
  omega
theorem zOi{n:Nat}{f g f' g':Nat->Int}(h1:qm n f g)(h2:qm n f' g')(h:∀i,i<n->PIn n f' g' (f i) (g i)):∀j,j<n->PIn n f g (f' j) (g' j):=by
 intro j hj;by_cases hx:PIn n f g (f' j) (g' j)
 ·exact hx
 ·exfalso;have:=zNg n (n - 1) (fun i=>if hi:i<n then(if (h i hi).choose<j then(h i hi).choose else(h i hi).choose - 1)else 0) (fun i hi=>by
   have hs:=(h i hi).choose_spec;have bA:(h i hi).choose≠j:=fun e=>hx ⟨i,hi,by rw[<-hs.2.1,e],by rw[<-hs.2.2,e]⟩
   simp only[hi,dif_pos];split<;>omega) (fun i k hi hk e=>by
   have hs:=(h i hi).choose_spec;have aA:=(h k hk).choose_spec;have bA:(h i hi).choose≠j:=fun e=>hx ⟨i,hi,by rw[<-hs.2.1,e],by rw[<-hs.2.2,e]⟩
   have cA:(h k hk).choose≠j:=fun e=>hx ⟨k,hk,by rw[<-aA.2.1,e],by rw[<-aA.2.2,e]⟩
   simp only[hi,hk,dif_pos]at e;have e2:(h i hi).choose=(h k hk).choose:=(by split at e<;>split at e<;>omega);refine h1.2.2.inj hi hk ?_;rw[<-hs.2.1,<-aA.2.1,e2])
  omega
theorem zES.symm{n m:Nat}{f g f' g':Nat->Int}(h:zES n f g m f' g'):zES m f' g' n f g:=by
 obtain⟨h1,h2,rfl,h3⟩:=h;exact⟨h2,h1,rfl,zOi h1 h2 h3⟩
def zB7(x:Int):Lit:=.int .i64 x
theorem zHX{x y:Int}(h:x≠y):zB7 x≠zB7 y:=fun e=>h (by unfold zB7 at e;injection e)
theorem zIi(x:Int):WideAt.IsKeyLit (zB7 x):=trivial
def zDh(x:Int):DataW Unit:=.lit (.int .i64 x)
theorem zFk{x y:Int}(h:zDh x=zDh y):x=y:=by unfold zDh at h;injection h with h;injection h
def seenD(f g:Nat->Int):Nat->DataW Unit
 | 0=>.map []
 | k+1=>(seenD f g k).put (zB7 (f k)) (zDh (g k))
theorem zDX(f g:Nat->Int):∀k,Tidy (seenD f g k)
 | 0=>tidy_empty
 | k+1=>(zDX f g k).put (zIi _) _
theorem zEY(f g:Nat->Int)(x:Int):∀k,Maps.has (seenD f g k) (zB7 x)=true↔∃i,i<k/\f i=x
 | 0=>by
  constructor
  ·intro h;exact absurd h (by simp[seenD,Maps.has])
  ·rintro⟨i,hi,_⟩;omega
 | k+1=>by
  by_cases hx:f k=x
  ·subst hx;exact⟨fun _=>⟨k,by omega,rfl⟩,fun _=>has_put_same (zDX f g k).isMap (zIi _) _⟩
  ·rw[show Maps.has (seenD f g (k+1)) (zB7 x)=Maps.has (seenD f g k) (zB7 x)from has_put_other (zHX (Ne.symm hx)) _,zEY f g x k];constructor
   ·rintro⟨i,hi,e⟩;exact⟨i,by omega,e⟩
   ·rintro⟨i,hi,e⟩;by_cases h:i=k
    ·subst h;exact absurd e hx
    ·exact⟨i,by omega,e⟩
theorem zGr{k:Nat}{f:Nat->Int}:zMA (k+1) f↔zMA k f/\∀i,i<k->f i≠f k:=by
 constructor
 ·exact fun h=>⟨fun i hi=>h i (by omega),fun i hi=>h k (by omega) i hi⟩
 ·rintro⟨h1,h2⟩ i hi j hj;by_cases e:i=k
  ·subst e;exact h2 j hj
  ·exact h1 i (by omega) j hj
theorem zGT(f g:Nat->Int):∀k,Maps.size (seenD f g k)<=k/\(Maps.size (seenD f g k)=k↔zMA k f)
 | 0=>⟨Nat.le_refl _,fun _ i hi=>by omega,fun _=>rfl⟩
 | k+1=>by
  obtain⟨h1,h2⟩:=zGT f g k;have e:Maps.size (seenD f g (k+1))=if Maps.has (seenD f g k) (zB7 (f k))then Maps.size (seenD f g k)else Maps.size (seenD f g k)+1:=size_put (zDX f g k) _
  by_cases hh:Maps.has (seenD f g k) (zB7 (f k))=true
  ·rw[if_pos hh]at e;rw[e,zGr];refine⟨by omega,fun h=>by omega,fun h=>?_⟩;obtain⟨i,hi,he⟩:=(zEY f g (f k) k).1 hh;exact absurd he (h.2 i hi)
  ·rw[if_neg hh]at e;rw[e,zGr,<-h2];refine⟨by omega,fun h=>⟨by omega,fun i hi he=>hh ((zEY f g (f k) k).2 ⟨i,hi,he⟩)⟩,fun h=>by omega⟩
theorem zNl{n:Nat}{f:Nat->Int}(g:Nat->Int)(hd:zMA n f)(z:DataW Unit):∀k,k<=n->∀i,i<k->(seenD f g k).atKey (zB7 (f i)) z=zDh (g i)
 | 0,_,i,hi=>absurd hi (Nat.not_lt_zero _)
 | k+1,hk,i,hi=>by
  by_cases e:i=k
  ·subst e;exact atKey_put_same (zDX f g i).isMap (zIi _) _ _
  ·exact(atKey_put_other (zHX (fun h=>e (hd.inj (by omega) (by omega) h))) _ _).trans (zNl g hd z k (by omega) i (by omega))
structure zDW (n:Nat) (f g f':Nat->Int) (k:Nat) (D:DataW Unit):Prop where
 tidy:Tidy D
 size:Maps.size D+k=n
 at':∀x,(∀j,j<k->f' j≠x)->(∀i,i<n->f i=x->D.atKey (zB7 x) (zDh 0)=zDh (g i))/\((∀i,i<n->f i≠x)->D.atKey (zB7 x) (zDh 0)=zDh 0)
 has:∀x,Maps.has D (zB7 x)=true↔(∃i,i<n/\f i=x)/\∀j,j<k->f' j≠x
theorem zDW.start{n:Nat}{f g:Nat->Int}(h:qm n f g)(f':Nat->Int):zDW n f g f' 0 (seenD f g n) where
 tidy:=zDX f g n
 size:=by rw[(zGT f g n).2.2 h.2.2];rfl
 at':=fun x _=>⟨fun i hi e=>by subst e;exact zNl g h.2.2 _ n (Nat.le_refl _) i hi,fun aA=>by
  refine atKey_of_not_has ?_ _;rw[Bool.eq_false_iff];intro hh;obtain⟨i,hi,e⟩:=(zEY f g x n).1 hh;exact aA i hi e⟩
 has:=fun x=>by
  rw[zEY];exact⟨fun h=>⟨h,fun j hj=>absurd hj (Nat.not_lt_zero _)⟩,fun h=>h.1⟩
theorem zDW.next{n m:Nat}{f g f' g':Nat->Int}{k:Nat}{D:DataW Unit}(h:zDW n f g f' k D)(h2:qm m f' g')(hk:k<m)(e:D.atKey (zB7 (f' k)) (zDh 0)=zDh (g' k)):zDW n f g f' (k+1) (D.del (zB7 (f' k))):=by
 have bA:Maps.has D (zB7 (f' k))=true:=by
  by_cases hh:Maps.has D (zB7 (f' k))=true
  ·exact hh
  ·rw[atKey_of_not_has (by simpa using hh)]at e;have:=zFk e;have:=(h2.2.1 k hk).2.2.1;omega
 have hs:=size_del (k:=zB7 (f' k)) h.tidy;rw[bA]at hs;refine⟨h.tidy.del _,?_,fun x hx=>?_,fun x=>?_⟩
 ·have:=h.size;have cA:Maps.size (D.del (zB7 (f' k)))+1=Maps.size D:=hs;omega
 ·have aA:f' k≠x:=hx k (by omega);rw[atKey_del_other (zHX (Ne.symm aA))];exact h.at' x (fun j hj=>hx j (by omega))
 ·by_cases aA:f' k=x
  ·subst aA;rw[has_del_same];exact⟨fun h=>absurd h (by simp),fun h=>absurd rfl (h.2 k (by omega))⟩
  ·rw[has_del_other (zHX (Ne.symm aA)),h.has x];refine and_congr_right fun _=>⟨fun h j hj=>?_,fun h j hj=>h j (by omega)⟩
   by_cases ej:j=k
   ·subst ej;exact aA
   ·exact h j (by omega)
theorem zDW.no{n m:Nat}{f g f' g':Nat->Int}{k:Nat}{D:DataW Unit}(h:zDW n f g f' k D)(h1:qm n f g)(h2:qm m f' g')(hk:k<m){c:Int}(e:D.atKey (zB7 (f' k)) (zDh 0)=zDh c)(hc:c≠g' k):¬zES n f g m f' g':=by
 intro hs;obtain⟨i,hi,e1,e2⟩:=hs.symm.2.2.2 k hk;have:=(h.at' (f' k) (fun j hj=>h2.2.2 k hk j hj)).1 i hi e1;rw[e]at this;exact hc ((zFk this).trans e2)
theorem zDW.end{n m:Nat}{f g f' g':Nat->Int}{D:DataW Unit}(h:zDW n f g f' m D)(h1:qm n f g)(h2:qm m f' g')(aA:∀j,j<m->PIn n f g (f' j) (g' j)):Maps.size D=0↔zES n f g m f' g':=by
 have hs:=h.size;constructor
 ·intro h0;obtain rfl:m=n:=(by omega);exact zES.symm ⟨h2,h1,rfl,aA⟩
 ·intro hp;have:=hp.2.2.1;omega
theorem zDW.in{n m:Nat}{f g f' g':Nat->Int}{k:Nat}{D:DataW Unit}(h:zDW n f g f' k D)(h2:qm m f' g')(hk:k<m)(e:D.atKey (zB7 (f' k)) (zDh 0)=zDh (g' k)):PIn n f g (f' k) (g' k):=by
 by_cases hx:∃i,i<n/\f i=f' k
 ·obtain⟨i,hi,ei⟩:=hx;have:=(h.at' (f' k) (fun j hj=>h2.2.2 k hk j hj)).1 i hi ei;rw[e]at this;exact⟨i,hi,ei,(zFk this).symm⟩
 ·have:=(h.at' (f' k) (fun j hj=>h2.2.2 k hk j hj)).2 (fun i hi e=>hx ⟨i,hi,e⟩);rw[e]at this;have:=zFk this;have:=(h2.2.1 k hk).2.2.1;omega
def qZ(f g:Nat->Int)(t:Int):Nat->List (Int×Int)
 | 0=>[]
 | k+1=>if t<g k then qZ f g t k ++ [(f k,g k)] else qZ f g t k
def zBi(f g:Nat->Int)(t:Int):Nat->List (Int×Int)
 | 0=>[]
 | k+1=>if t<g k then zBi f g t k else zBi f g t k ++ [(f k,g k)]
theorem zCc(f g:Nat->Int)(t:Int):∀k,(qZ f g t k).length+(zBi f g t k).length=k
 | 0=>rfl
 | k+1=>by
  have:=zCc f g t k;unfold qZ zBi;split<;>simp<;>omega
theorem zX{P:Prop}(h:P):Hid P:=h
theorem zU.zRb{w:World}{lo hi:Nat}{a:Option Addr}{n c:Nat}{f g:Nat->Int}(h:zU w lo hi (.slice a n c) n f g){k:Nat}(hk:k<n):∃b off,a=some ⟨b,off,none⟩/\w.cell? ⟨b,off+k*2,none⟩=some (.int .i64 (f k))/\w.cell? ⟨b,off+k*2+1,none⟩=some (.int .i64 (g k)):=by
 obtain⟨_,a2,c2,hv,_,hx⟩:=h;simp only[Value.slice.injEq,true_and]at hv;obtain⟨rfl,rfl⟩:=hv;obtain⟨b,off,ha,_,_,h3⟩:=hx (by omega);exact⟨b,off,ha,(h3 k hk).1,(h3 k hk).2⟩
theorem zKx(x y:Int)(w:World):Calls Tryz.prog 214 #[.agg #[.int .i64 x,.int .i64 y]] w fun e w'=>zG (zFD x y) e/\Below w.heap.size w w':=by
 have aA:=zC w (.cells #[.int .i64 x,.int .i64 y] 61);by_cases h1:0<=x
 ·by_cases h2:x<200
  ·by_cases h3:qi y
   ·have H:=zX (show zFD x y from⟨h1,by omega,h3.1,h3.2⟩);have H3:=zX h3;clear h3;go_enter Tryz.func214,Tryz.ntmps214;go_wp2_with (first | (go_at_call 156;refine(qN y _).mono ?_;rintro e w1 ⟨⟨t,rfl,ht⟩,rfl⟩;obtain rfl:t=true:=ht.2 H3.out;clear ht) | fail);go_wp2;go_ret;exact⟨zG.yes H.out,aA⟩
   ·have H:=zX (show ¬zFD x y from fun h=>h3 ⟨h.2.2.1,h.2.2.2⟩);have H3:=zX h3;clear h3;go_enter Tryz.func214,Tryz.ntmps214;go_wp2_with (first | (go_at_call 156;refine(qN y _).mono ?_;rintro e w1 ⟨⟨t,rfl,ht⟩,rfl⟩;obtain rfl:t=false:=zQ ht H3.out;clear ht) | fail);go_wp2;go_ret;exact⟨zG.no H.out,aA⟩
  ·go_enter Tryz.func214,Tryz.ntmps214;go_wp2;go_ret;exact⟨zG.no fun h=>by have:=h.2.1;omega,aA⟩
 ·go_enter Tryz.func214,Tryz.ntmps214;go_wp2;go_ret;exact⟨zG.no fun h=>by have:=h.1;omega,aA⟩
theorem zQz:Keyed Tryz.prog 2:=int_keyed (q:=.i64) (by kernel_rfl)
theorem zP4:Tryz.prog.underlying 243=some (.map 2 2):=by kernel_rfl
theorem zQN:Tryz.prog.underlying 2=some (.int .i64):=by kernel_rfl
theorem zRO(w:World):(zeroValue 2).run Tryz.prog w = .ok (.int .i64 0) w:=by kernel_rfl
theorem zHv{x:Int}(h0:0<=x)(h1:x<=1000000):(Lit.int .i64 x).wf=true:=WalkArith.wf_i64 (by omega)
def zPq(w:World)(B n:Nat)(D:DataW Unit):Prop:=w.ownsMap Tryz.prog 2 (plainElem Tryz.prog 2) B n D
theorem zFE(v:Value)(n lo hi:Nat)(f g:Nat->Int)(w:World)(h1:zU w lo hi v n f g)(hn:n<=200)(kA:∀i,i<n->zFD (f i) (g i)) :
  Calls Tryz.prog 215 #[v] w fun e w'=>e = .returned (.map (some w.heap.size))/\zPq w' w.heap.size n (seenD f g n)/\Below w.heap.size w w':=by
 have Hp:=zX h1;have gA:=zX kA;obtain⟨m1,a,c,rfl,mc,_⟩:=id h1;clear h1 kA;have nA:=@run_makeMap Tryz.prog;go_enter Tryz.func215,Tryz.ntmps215;go_wp2
 go_loopw [9] (fun i wr=>∃k:Nat,k<=n/\i = .int .i64 k/\zPq wr w.heap.size k (seenD f g k)/\Below w.heap.size w wr) (fun i _=>n - (intOf i).toNat)
 case atStart=>exact⟨0,Nat.zero_le _,rfl,World.ownsMap_made _ _ _ _,(Below.refl _ _).alloc (Nat.le_refl _) _⟩
 case round=>
  obtain⟨k,hk,rfl,eA,hb⟩:=hrel;have bA:=zX eA;clear eA;by_cases fA:k<n
  ·have lA:(k:Int)<(n:Int):=(by omega);obtain⟨b,off,rfl,q0,q1⟩:=(Hp.out.zRX hb).zRb fA;have cA:keyOf Tryz.prog 2 (.int .i64 (f k))=some (zB7 (f k)):=keyOf_int_mk zQN (zHv (gA.out k fA).1 (by have:=(gA.out k fA).2.1;omega));have jA:=zHv (x:=g k) (by have:=(gA.out k fA).2.2.1;omega) (gA.out k fA).2.2.2;have iA:=zX cA;have mA:=zX jA;clear cA jA;go_wp2_with (first
    | (at_mapUpdate;refine wpList_mapUpdate_own _ rfl _ _ _ 243 rfl 2 2 zQz zP4 _ w.heap.size k _ rfl (bA.out.alloc _) (by unfold maxLen;omega) _ _ _ rfl rfl iA.out _ [] (plainElem_int zQN mA.out) ?_;intro w1 dA aA)
    | go_in)
   go_roundw
   case rel=>exact⟨k+1,by omega,by go_num,dA,(hb.alloc hb.size _).grown aA (by rw[World.size_alloc];have:=hb.size;omega) (fun j hj=>by cases hj;exact Nat.le_refl _)⟩
   case measure=>simp[intOf];omega
  ·obtain rfl:k=n:=(by omega);go_wp2;go_ret;exact⟨rfl,bA.out,hb⟩
theorem qg(v:Value)(n lo hi:Nat)(f g:Nat->Int)(w:World)(h1:zU w lo hi v n f g) :
  Calls Tryz.prog 186 #[v] w fun e w'=>zG (qm n f g) e/\Below w.heap.size w w':=by
 have Hp:=zX h1;obtain⟨m1,a,c,rfl,mc,_⟩:=id h1;clear h1;unfold maxLen at m1;by_cases hn:n<=200
 ·have jA:¬(200:Int)<(n:Int):=(by omega);go_enter Tryz.func186,Tryz.ntmps186;go_wp2
  go_loopw [10] (fun i wr=>∃k:Nat,k<=n/\i = .int .i64 k/\(∀i,i<k->zFD (f i) (g i))/\Below w.heap.size w wr) (fun i _=>n - (intOf i).toNat)
  case atStart=>exact⟨0,Nat.zero_le _,rfl,fun j hj=>absurd hj (Nat.not_lt_zero _),Below.refl _ _⟩
  case round=>
   obtain⟨k,hk,rfl,dA,hb⟩:=hrel;have aA:=zX dA;clear dA;by_cases fA:k<n
   ·have kA:(k:Int)<(n:Int):=(by omega);obtain⟨b,off,rfl,q0,q1⟩:=(Hp.out.zRX hb).zRb fA;have gA:=zA hb (zC wr (.cells #[.int .i64 (f k),.int .i64 (g k)] 61));go_wp2_with fail;refine(zKx (f k) (g k) _).mono ?_;rintro e w1 ⟨⟨t,rfl,ht⟩,cA⟩;have eA:=zA gA cA;clear cA gA q0 q1;by_cases bA:zFD (f k) (g k)
    ·have Hk:=zX bA;obtain rfl:t=true:=ht.2 bA;clear ht bA;go_wp2;go_roundw
     case rel=>exact⟨k+1,by omega,by go_num,zo fA aA.out Hk.out,eA⟩
     case measure=>simp[intOf];omega
    ·have Hk:=zX bA;obtain rfl:t=false:=zQ ht bA;clear ht bA;go_wp2;go_ret;exact⟨zG.no fun h=>Hk.out (h.2.1 k fA),eA⟩
   ·obtain rfl:k=n:=(by omega);go_wp2_with fail;refine(zFE _ k lo hi f g _ (Hp.out.zRX hb) hn aA.out).mono ?_;rintro e w1 ⟨rfl,hm,cA⟩;have eA:=zA hb cA;have Hm:=zX hm;have lA:=zGT f g k;clear hm cA;obtain⟨nA,iA⟩:=lA;have mA:=zX iA;clear iA;go_wp2_with (first
     | (at_len;refine wpList_len_own _ rfl _ 243 rfl 2 2 zP4 _ wr.heap.size k _ rfl Hm.out ?_)
     | go_in)
    go_ret;refine⟨⟨_,rfl,?_⟩,eA⟩;have Ho:=mA.out;have Ha:=aA.out;simp only[beq_iff_eq,Int.natCast_inj];exact Ho.trans ⟨fun h=>⟨hn,Ha,h⟩,fun h=>h.2.2⟩
 ·have jA:(200:Int)<(n:Int):=(by omega);go_enter Tryz.func186,Tryz.ntmps186;go_wp2;go_ret;exact⟨zG.no fun h=>hn h.1,Below.refl _ _⟩
def zB6(n a b:Int):Prop:=a<=n/\n<=b
theorem zBM(n a b:Int)(w:World):Calls Tryz.prog 137 #[.int .i64 n,.int .i64 a,.int .i64 b] w fun e w'=>zG (zB6 n a b) e/\w'=w:=by
 by_cases h1:a<=n
 ·by_cases h2:n<=b
  ·go_enter Tryz.func137,Tryz.ntmps137;go_wp2;go_ret;exact⟨zG.yes ⟨h1,h2⟩,rfl⟩
  ·go_enter Tryz.func137,Tryz.ntmps137;go_wp2;go_ret;exact⟨zG.no fun h=>by have:=h.2;omega,rfl⟩
 ·go_enter Tryz.func137,Tryz.ntmps137;go_wp2;go_ret;exact⟨zG.no fun h=>by have:=h.1;omega,rfl⟩
theorem zAE(v:Value)(n lo hi:Nat)(f g:Nat->Int)(w:World)(h1:zU w lo hi v n f g) :
  Calls Tryz.prog 185 #[v] w fun e w'=>zG (qm n f g) e/\Below w.heap.size w w':=by
 have Hp:=zX h1;obtain⟨m1,a,c,rfl,mc,_⟩:=id h1;clear h1;unfold maxLen at m1;by_cases hn:n<=200
 ·have lA:¬(200:Int)<(n:Int):=(by omega);go_enter Tryz.func185,Tryz.ntmps185;go_wp2
  go_loopw [3] (fun i wr=>∃k:Nat,k<=n/\i = .int .i64 k/\(∀i,i<k->zFD (f i) (g i))/\zMA k f/\Below w.heap.size w wr) (fun i _=>n - (intOf i).toNat)
  case atStart=>exact⟨0,Nat.zero_le _,rfl,fun j hj=>absurd hj (Nat.not_lt_zero _),fun j hj=>absurd hj (Nat.not_lt_zero _),Below.refl _ _⟩
  case round=>
   obtain⟨k,hk,rfl,fA,cA,hb⟩:=hrel;have dA:=zX fA;have aA:=zX cA;clear fA cA;by_cases bA:k<n
   ·have mA:(k:Int)<(n:Int):=(by omega);obtain⟨b,off,rfl,q0,q1⟩:=(Hp.out.zRX hb).zRb bA;by_cases hx:zB6 (f k) 0 199
    ·have Hx:=zX hx;clear hx;by_cases hy:qi (g k)
     ·have Hy:=zX hy;clear hy;go_wp2_with (first
       | (go_at_call 137;refine(zBM (f k) 0 199 _).mono ?_;rintro e w1 ⟨⟨t,rfl,ht⟩,rfl⟩;obtain rfl:t=true:=ht.2 Hx.out;clear ht)
       | (go_at_call 145;refine(yY (g k) _).mono ?_;rintro e w2 ⟨⟨t,rfl,ht⟩,rfl⟩;obtain rfl:t=true:=ht.2 Hy.out;clear ht)
       | fail)
      go_wp2
      go_loopw [4] (fun i wr=>∃j:Nat,j<=k/\i = .int .i64 j/\(∀i,i<j->f i≠f k)/\Below w.heap.size w wr) (fun i _=>k - (intOf i).toNat)
      case atStart=>exact⟨0,Nat.zero_le _,rfl,fun j hj=>absurd hj (Nat.not_lt_zero _),hb⟩
      case round=>
       obtain⟨j,hj,rfl,iA,eA⟩:=hrel;have jA:=zX iA;clear iA q0 q1 hb;by_cases gA:j<k
       ·have kA:(j:Int)<(k:Int):=(by omega);have nA:(j:Int)<(n:Int):=(by omega);obtain⟨_,_,ha,r0,_⟩:=(Hp.out.zRX eA).zRb (show j<n by omega);simp only[Option.some.injEq,Addr.mk.injEq,and_true]at ha;obtain⟨rfl,rfl⟩:=ha;obtain⟨_,_,ha,s0,_⟩:=(Hp.out.zRX eA).zRb bA;simp only[Option.some.injEq,Addr.mk.injEq,and_true]at ha;obtain⟨rfl,rfl⟩:=ha;by_cases he:f j=f k
        ·have He:=zX he;have e0:(f j == f k)=true:=(by simp[he]);clear he;go_wp2
         go_quiet (fail)
         go_wp2;go_ret;exact⟨zG.no fun h=>h.2.2 k bA j gA He.out,zg eA _⟩
        ·have He:=zX he;have e0:(f j == f k)=false:=(by simp[he]);clear he;go_wp2
         go_quiet (fail)
         go_wp2;go_roundw
         case rel=>exact⟨j+1,by omega,by go_num,zo gA jA.out He.out,zg eA _⟩
         case measure=>simp[intOf];omega
       ·obtain rfl:j=k:=(by omega);go_wp2;go_roundw
        case rel=>exact⟨j+1,by omega,by go_num,zo bA dA.out ⟨Hx.out.1,Hx.out.2,Hy.out.1,Hy.out.2⟩,zGr.2 ⟨aA.out,jA.out⟩,eA⟩
        case measure=>simp[intOf];omega
     ·have Hy:=zX hy;clear hy;go_wp2_with (first
       | (go_at_call 137;refine(zBM (f k) 0 199 _).mono ?_;rintro e w1 ⟨⟨t,rfl,ht⟩,rfl⟩;obtain rfl:t=true:=ht.2 Hx.out;clear ht)
       | (go_at_call 145;refine(yY (g k) _).mono ?_;rintro e w2 ⟨⟨t,rfl,ht⟩,rfl⟩;obtain rfl:t=false:=zQ ht Hy.out;clear ht)
       | fail)
      go_wp2;go_ret;exact⟨zG.no fun h=>Hy.out ⟨(h.2.1 k bA).2.2.1,(h.2.1 k bA).2.2.2⟩,hb⟩
    ·have Hx:=zX hx;clear hx;go_wp2_with (first
      | (go_at_call 137;refine(zBM (f k) 0 199 _).mono ?_;rintro e w1 ⟨⟨t,rfl,ht⟩,rfl⟩;obtain rfl:t=false:=zQ ht Hx.out;clear ht)
      | fail)
     go_wp2;go_ret;exact⟨zG.no fun h=>Hx.out ⟨(h.2.1 k bA).1,(h.2.1 k bA).2.1⟩,hb⟩
   ·obtain rfl:k=n:=(by omega);go_wp2;go_ret;exact⟨zG.yes ⟨hn,dA.out,aA.out⟩,hb⟩
 ·have lA:(200:Int)<(n:Int):=(by omega);go_enter Tryz.func185,Tryz.ntmps185;go_wp2;go_ret;exact⟨zG.no fun h=>hn h.1,Below.refl _ _⟩
theorem zDQ(v:Value)(n lo hi:Nat)(f g:Nat->Int)(x y:Int)(w:World)(h1:zU w lo hi v n f g) :
  Calls Tryz.prog 142 #[v,.agg #[.int .i64 x,.int .i64 y]] w fun e w'=>zG (PIn n f g x y) e/\Below w.heap.size w w':=by
 have Hp:=zX h1;obtain⟨m1,a,c,rfl,mc,_⟩:=id h1;unfold maxLen at m1;clear h1;have ha:=zC w (.cells #[.int .i64 x,.int .i64 y] 61);have HB:=zX (zc.zRZ w (.int .i64 x) (.int .i64 y) 61);go_enter Tryz.func142,Tryz.ntmps142;go_wp2
 go_loopw [5] (fun i wr=>∃k:Nat,k<=n/\i = .int .i64 k/\¬PIn k f g x y/\zc wr w.heap.size (.int .i64 x) (.int .i64 y)/\Below w.heap.size w wr) (fun i _=>n - (intOf i).toNat)
 case atStart=>exact⟨0,Nat.zero_le _,rfl,fun ⟨j,hj,_⟩=>absurd hj (Nat.not_lt_zero _),HB.out,ha⟩
 case round=>
  obtain⟨k,hk,rfl,cA,hX,hb⟩:=hrel;have bA:=zX cA;have HX:=zX hX;clear cA hX;obtain⟨⟨x0,x1⟩,⟨x2,x3⟩⟩:=HX.out;by_cases dA:k<n
  ·have eA:(k:Int)<(n:Int):=(by omega);obtain⟨b,off,rfl,q0,q1⟩:=(Hp.out.zRX hb).zRb dA;by_cases he:f k=x/\g k=y
   ·have H:=zX (show PIn n f g x y from⟨k,dA,he.1,he.2⟩);rw[he.1]at q0;rw[he.2]at q1;clear he;go_wp2
    go_quiet (fail)
    go_wp2;go_ret;exact⟨zG.yes H.out,zg hb _⟩
   ·have H:=zX he;have e0:(f k == x)=false\/(f k == x)=true/\(g k == y)=false:=by
     by_cases h:f k=x
     ·right;refine⟨by simp[h],?_⟩;have:g k≠y:=fun h'=>he ⟨h,h'⟩
      simp[this]
     ·left;simp[h]
    clear he;rcases e0 with e0 | ⟨e0,e1⟩
    all_goals
     go_wp2
     go_quiet (fail)
     go_wp2;go_roundw
     case rel=>
      refine⟨k+1,by omega,by go_num,?_,HX.out.zRX (zg (Below.refl _ _) _),zg hb _⟩;rintro⟨j,hj,aA⟩;by_cases e:j=k
      ·subst e;exact H.out ⟨aA.1,aA.2⟩
      ·exact bA.out ⟨j,by omega,aA⟩
     case measure=>simp[intOf];omega
  ·obtain rfl:k=n:=(by omega);go_wp2;go_ret;exact⟨zG.no bA.out,hb⟩
theorem zGV(v v':Value)(n lo hi n' lo' hi':Nat)(f g f' g':Nat->Int)(w:World)(h1:zU w lo hi v n f g)(h2:zU w lo' hi' v' n' f' g') :
  Calls Tryz.prog 143 #[v,v'] w fun e w'=>zG (zES n f g n' f' g') e/\Below w.heap.size w w':=by
 have Hp:=zX h1;have iA:=zX h2;obtain⟨m1,a,c,rfl,mc,_⟩:=id h1;obtain⟨m2,a',c',rfl,oA,_⟩:=id h2;unfold maxLen at m1 m2;clear h1 h2;by_cases ho:qm n f g
 ·have Ho:=zX ho;clear ho;by_cases fA:qm n' f' g'
  ·have dA:=zX fA;clear fA;go_enter Tryz.func143,Tryz.ntmps143;go_wp2_with fail;refine(zAE _ n lo hi f g _ Hp.out).mono ?_;rintro e w1 ⟨⟨t,rfl,ht⟩,aA⟩;obtain rfl:t=true:=ht.2 Ho.out;clear ht;go_wp2_with fail;refine(zAE _ n' lo' hi' f' g' _ (iA.out.zRX aA)).mono ?_;rintro e w2 ⟨⟨t,rfl,ht⟩,cA⟩;obtain rfl:t=true:=ht.2 dA.out;have gA:=zA aA cA;clear ht aA cA;by_cases kA:n=n'
   ·subst kA;have e0:((n:Int) != (n:Int))=false:=(by simp);go_wp2
    go_loopw [5] (fun i wr=>∃k:Nat,k<=n/\i = .int .i64 k/\(∀i,i<k->PIn n f' g' (f i) (g i))/\Below w.heap.size w wr) (fun i _=>n - (intOf i).toNat)
    case atStart=>exact⟨0,Nat.zero_le _,rfl,fun j hj=>absurd hj (Nat.not_lt_zero _),gA⟩
    case round=>
     obtain⟨k,hk,rfl,eA,hb⟩:=hrel;have bA:=zX eA;clear eA;by_cases jA:k<n
     ·have nA:(k:Int)<(n:Int):=(by omega);obtain⟨b,off,rfl,q0,q1⟩:=(Hp.out.zRX hb).zRb jA;go_wp2_with fail;refine(zDQ _ n lo' hi' f' g' (f k) (g k) _ (iA.out.zRX hb)).mono ?_;rintro e w3 ⟨⟨t,rfl,ht⟩,lA⟩;have mA:=zA hb lA;clear lA;by_cases hi':PIn n f' g' (f k) (g k)
      ·have Hi:=zX hi';obtain rfl:t=true:=ht.2 hi';clear ht hi';go_wp2;go_roundw
       case rel=>exact⟨k+1,by omega,by go_num,zo jA bA.out Hi.out,mA⟩
       case measure=>simp[intOf];omega
      ·have Hi:=zX hi';obtain rfl:t=false:=zQ ht hi';clear ht hi';go_wp2;go_ret;exact⟨zG.no fun h=>Hi.out (h.2.2.2 k jA),mA⟩
     ·obtain rfl:k=n:=(by omega);go_wp2;go_ret;exact⟨zG.yes ⟨Ho.out,dA.out,rfl,bA.out⟩,hb⟩
   ·have e0:((n:Int) != (n':Int))=true:=(by simp;omega);have Hn:=zX kA;clear kA;go_wp2;go_ret;exact⟨zG.no fun h=>Hn.out h.2.2.1,gA⟩
  ·have dA:=zX fA;clear fA;go_enter Tryz.func143,Tryz.ntmps143;go_wp2_with fail;refine(zAE _ n lo hi f g _ Hp.out).mono ?_;rintro e w1 ⟨⟨t,rfl,ht⟩,aA⟩;obtain rfl:t=true:=ht.2 Ho.out;clear ht;go_wp2_with fail;refine(zAE _ n' lo' hi' f' g' _ (iA.out.zRX aA)).mono ?_;rintro e w2 ⟨⟨t,rfl,ht⟩,cA⟩;obtain rfl:t=false:=zQ ht dA.out;have gA:=zA aA cA;clear ht aA cA;go_wp2;go_ret;exact⟨zG.no fun h=>dA.out h.2.1,gA⟩
 ·have Ho:=zX ho;clear ho;go_enter Tryz.func143,Tryz.ntmps143;go_wp2_with fail;refine(zAE _ n lo hi f g _ Hp.out).mono ?_;rintro e w1 ⟨⟨t,rfl,ht⟩,aA⟩;obtain rfl:t=false:=zQ ht Ho.out;clear ht;go_wp2;go_ret;exact⟨zG.no fun h=>Ho.out h.1,aA⟩
theorem s1{α : Type}(l:List α)(i:Nat)(a:α):l.toArray.setIfInBounds i a=(l.set i a).toArray:=List.setIfInBounds_toArray ..
theorem s2{α : Type}(x:α)(l:List α)(a:α):(x :: l).set 0 a=a :: l:=rfl
theorem s3{α : Type}(x:α)(l:List α)(i:Nat)(a:α):(x :: l).set (i+1) a=x :: l.set i a:=rfl
def zNE:List Oper->Nat->Option Oper
 | [],_=>none
 | o :: _,0=>some o
 | _ :: l,n+1=>zNE l n
theorem zJk:∀(l:List Oper) (i:Nat),l[i]?=zNE l i
 | [],_=>rfl
 | _ :: _,0=>rfl
 | _ :: l,n+1=>by simpa[zNE]using zJk l n
theorem zAa{aA:Array Oper}{i:Nat}{o:Oper}(h:zNE aA.toList i=some o):aA[i]?=some o:=by
 rw[<-h,<-zJk,Array.getElem?_toList]
section
variable {P : Program} {md : Region.Mode} {ops : Array Oper} {Q : Exit -> Act -> World -> Prop} {S : World -> Prop}
theorem tk(i:Nat){o:Oper}{v:Value}{bA:Nat}{aA l':Array Bool}{a a':Act}{w:World}(hi:zNE ops.toList i=some o:=by exact rfl)
  (hb:(Region.noSelect ops && (Region.free md ops aA i && (Region.ready md ops aA).contains i))=true:=by kernel_rfl)
  (hw:Region.wanted o (yielded ops a.tmps)=true:=by exact rfl) (hS:S w:=by assumption)
  (hy:∀w,S w->(execOp a.eval o).run P w = .ok (.value v) w:=by(intro w cA;(try dsimp only at cA);go_simp;try with_reducible rfl))
  (hl:aA.setIfInBounds i true=l':=by((try simp only[s1,s2,s3]);exact rfl))
  (ha:a.put o.dst v=a':=by((try simp only[Act.put,s1,s2,s3]);exact rfl))
  (hQ:∀c a w,Q (.panic c) (a.put o.dst v) w->Q (.panic c) a w:=by exact fun _ _ _ h=>h)
  (h:wpAnyH P md ops Q S bA l' a' w):wpAnyH P md ops Q S (bA+1) aA a w:=by
 simp only[Bool.and_eq_true]at hb;subst hl ha;exact wpAnyH_take (zAa hi) hb.1 hb.2.1 hb.2.2 hQ (Or.inl ⟨hw,hy⟩) hS h
theorem ts(i:Nat){o:Oper}{bA:Nat}{aA l':Array Bool}{a a':Act}{w:World}(hi:zNE ops.toList i=some o:=by exact rfl)
  (hb:(Region.noSelect ops && (Region.free md ops aA i && (Region.ready md ops aA).contains i))=true:=by kernel_rfl)
  (hw:Region.wanted o (yielded ops a.tmps)=false:=by exact rfl) (hS:S w:=by assumption)
  (hl:aA.setIfInBounds i true=l':=by((try simp only[s1,s2,s3]);exact rfl))
  (ha:a.put o.dst undef=a':=by((try simp only[Act.put,s1,s2,s3]);exact rfl))
  (hQ:∀c a w,Q (.panic c) (a.put o.dst undef) w->Q (.panic c) a w:=by exact fun _ _ _ h=>h)
  (h:wpAnyH P md ops Q S bA l' a' w):wpAnyH P md ops Q S (bA+1) aA a w:=by
 simp only[Bool.and_eq_true]at hb;subst hl ha;exact wpAnyH_take (zAa hi) hb.1 hb.2.1 hb.2.2 hQ (Or.inr ⟨hw,rfl⟩) hS h
theorem rd(rs:List Nat){bA:Nat}{aA:Array Bool}{a:Act}{w:World}(h:AllReadyH P md ops Q S bA aA a w rs)
  (hr:Region.ready md ops aA=rs:=by kernel_rfl) (cA:rs≠[]:=by simp):wpAnyH P md ops Q S (bA+1) aA a w:=wpAnyH_ready hr cA h
theorem rc{bA:Nat}{aA:Array Bool}{a:Act}{w:World}{i:Nat}{o:Oper}{rs:List Nat}
  (h:∀K':Act->World->Prop,Shut (∀a w,S w->(S w->wpAnyH P md ops Q S bA (aA.setIfInBounds i true) a w)->K' a w)->if Region.wanted o (yielded ops a.tmps)=true then Oper.wp P o a w K' Q else K' (a.put o.dst undef) w)
  (hs:AllReadyH P md ops Q S bA aA a w rs) (ho:zNE ops.toList i=some o:=by exact rfl):AllReadyH P md ops Q S bA aA a w (i :: rs):=AllReadyH.cons (zAa ho) h hs
end
end Go.Proofs.YtmgeglgboadfiaaGreatDoor
