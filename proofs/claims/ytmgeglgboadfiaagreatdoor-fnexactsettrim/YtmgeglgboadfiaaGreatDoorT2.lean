/- A node's Kids as an array of eight pointers: what impl.kidsOf, impl.kidFound and impl.kidsThere answer. -/
import Derived.Test.YtmgeglgboadfiaaGreatDoorT1
import Derived.Laws.CopyOwn
import Derived.Deep.RegionLaw
import Derived.Deep.WholeRow
import Derived.RegionTactic
import Derived.ChangeAlike
import Derived.BigRegion
import Derived.Maps.OwnSet
import Derived.Deep.RegionHeld
set_option linter.unusedVariables false
set_option maxRecDepth 20000
set_option maxHeartbeats 4000000
namespace Go.Proofs.YtmgeglgboadfiaaGreatDoor
open Go.RowKit
theorem zER{P:Program}(w:World)(dT sT ty elem:TypeId)(size g o aA gA:Nat)(a:Addr)(bA fA:Nat)(cA:Array Value)(t:TypeId)(cs:List Value)
  (hu:P.underlying dT=some (.slice elem)) (hs:(P.info? elem).map (·.size)=some size)
  (hg:w.heap[g]?=some (.cells cA t (0,0))) (hn:cs.length=Nat.min bA aA*size)
  (eA:∀j v,cs[j]?=some v->w.cell? (a.add j)=some v) (dA:o+cs.length<=cA.size) (h1:∀v∈cs,v.oneCell'=true) :
  (Builtin.copy_ #[dT,sT] ty #[.slice (some ⟨g,o,none⟩) aA gA,.slice (some a) bA fA]).run P w =
   .ok (goInt (Nat.min bA aA)) (w.setRow g (cA.toList.take o ++ cs ++ cA.toList.drop (o+cs.length)).toArray):=by
 have hl:=run_loadCells_list (P:=P) w a cs eA;have iA:=run_storeCells_at P g o t cs 0 cA w hg (by simpa using dA) h1;cases hq:P.info? elem with
 | none=>simp[hq]at hs
 | some i=>
  have hi:i.size=size:=(by simpa[hq]using hs);have e:Nat.min bA aA*i.size=cs.length:=(by rw[hi,hn]);simp[Builtin.copy_,run_underlying hu,Builtin.lenOf,Builtin.firstCells,sizeOf,typeInfo,hq,e,hl,iA]
theorem zIj{P:Program}(w:World)(dT sT ty elem:TypeId)(size:Nat)(d a:Option Addr)(bA cA aA:Nat)
  (hu:P.underlying dT=some (.slice elem)) (hs:(P.info? elem).map (·.size)=some size) :
  (Builtin.copy_ #[dT,sT] ty #[.slice d bA cA,.slice a 0 aA]).run P w = .ok (goInt 0) w:=by
 cases hq:P.info? elem with
 | none=>simp[hq]at hs
 | some i=>
  cases a with
  | none=>cases d<;>simp[Builtin.copy_,run_underlying hu,Builtin.lenOf,Builtin.firstCells,sizeOf,typeInfo,hq,storeCells]
  | some a=>cases d<;>simp[Builtin.copy_,run_underlying hu,Builtin.lenOf,Builtin.firstCells,sizeOf,typeInfo,hq,storeCells,loadCells,loadCellsFrom]
def zk(s:zL)(j:Nat):Int:=if j / 2<s.kn then(if j % 2=0 then s.ks (j / 2)else s.kb (j / 2))else 0
def zp(f:Nat->Int):Array Value:=((List.range 16).map fun j=>Value.int .i64 (f j)).toArray
def qE(s:zL):Array Value:=zp (zk s)
theorem qB(f:Nat->Int):(zp f).size=16:=by simp[zp]
theorem yP(f:Nat->Int){j:Nat}(h:j<16):(zp f)[j]?=some (.int .i64 (f j)):=by simp[zp,h]
theorem zAr(f:Nat->Int):(zp f).all (·.oneCell')=true:=by
 unfold zp;rw[Array.all_eq_true_iff_forall_mem];intro v hv;simp at hv;obtain⟨j,_,rfl⟩:=hv;rfl
theorem zJk{f g:Nat->Int}(h:∀j,j<16->f j=g j):zp f=zp g:=by
 unfold zp;congr 1;apply List.map_congr_left;intro j hj;rw[h j (by simpa using hj)]
theorem zBt:(Tryz.prog.info? 155).map (·.size)=some 16:=by kernel_rfl
theorem zET:(Tryz.prog.info? 61).map (·.size)=some 2:=by kernel_rfl
theorem zHE:Tryz.prog.underlying 155=some (.array 8 61):=by kernel_rfl
theorem zGw(w:World)(o1 o2 o3:Obj):(((w.alloc o1).alloc o2).alloc o3).heap[w.heap.size+1]?=some o2/\(((w.alloc o1).alloc o2).alloc o3).heap[w.heap.size+1+1]?=some o3/\w.heap.size+1+1<(((w.alloc o1).alloc o2).alloc o3).heap.size:=by
 refine⟨?_,?_,by simp⟩
 ·rw[Below.heap_alloc _ _ _ (by simp)];have:=heap_alloc_last (w.alloc o1) o2;rw[World.size_alloc]at this;exact this
 ·have:=heap_alloc_last ((w.alloc o1).alloc o2) o3;rw[World.size_alloc,World.size_alloc]at this;exact this
theorem zF.setRow(w:World)(g:Nat)(cs:Array Value):zF (fun k=>k=g) w (w.setRow g cs):=
 ⟨rfl,rfl,rfl,by simp[World.setRow],fun k _ hs=>setRow_other w g k cs hs⟩
theorem zH0{dA:Array Oper}{o:Oper}{a:Act}{w:World}{K:Act->World->Prop}{Q:Exit->Act->World->Prop}{E:Prop}(fA:o.guard=none)(d s:Operand)
  (ho:o.op = .call {callee:=.builtin .copy,args:=#[d,s],argTypes:=#[62,62]})
  (g:Nat) (ka:Option Addr) (kc:Nat) (sl:zL) (hd:a.eval d = .slice (some ⟨g,0,none⟩) 8 8) (hs:a.eval s = .slice ka sl.kn kc)
  (hg:w.heap[g]?=some (.cells (zp fun _=>0) 155 (0,0))) (hk:sl.kn=0\/(sl.kn=8/\∃b off,ka=some ⟨b,off,none⟩/\∀i,i<sl.kn->w.cell? ⟨b,off+i*2,none⟩=some (.int .i64 (sl.ks i))/\w.cell? ⟨b,off+i*2+1,none⟩=some (.int .i64 (sl.kb i))))
  (h:∀w' v,Hid (w'.heap[g]?=some (.cells (qE sl) 155 (0,0)))->zF (fun k=>k=g) w w'->K (a.put o.dst v) w') :
  if Region.wanted o (yielded dA a.tmps)=true then Oper.wp Tryz.prog o a w K Q else E:=by
 have hw:Region.wanted o (yielded dA a.tmps)=true:=by simp[Region.wanted,fA]
 rw[if_pos hw];have hu:Tryz.prog.underlying 62=some (.slice 61):=by kernel_rfl
 rcases hk with hk | ⟨hk,b,off,rfl,hc⟩
 ·rw[hk]at hs;have aA:=zIj (P:=Tryz.prog) w 62 62 o.type 61 2 (some ⟨g,0,none⟩) ka 8 8 kc hu zET;unfold Oper.wp;simp[execOp,ho,resolve,invoke,builtin,hd,hs,aA,Result.andThen];refine h _ _ ?_ (zF.refl _ _);show _=_;rw[hg];have:qE sl=zp (fun _=>0):=zJk fun j _=>by unfold zk;rw[if_neg (by omega)]
  rw[this]
 ·rw[hk]at hs;have aA:=zER (P:=Tryz.prog) w 62 62 o.type 61 2 g 0 8 8 ⟨b,off,none⟩ 8 kc (zp fun _=>0) 155 (qE sl).toList hu zET hg (by simp[qE,zp]) (fun j v hj=>by
    have bA:j<16:=by
     have:=(List.getElem?_eq_some_iff.1 hj).1;simpa[qE,qB]using this
    have e:(qE sl).toList[j]?=some (.int .i64 (zk sl j)):=(by rw[Array.getElem?_toList];exact yP (zk sl) bA);rw[e]at hj;simp only[Option.some.injEq]at hj;subst hj;have cA:(⟨b,off,none⟩:Addr).add j=⟨b,off+j,none⟩:=(by unfold Addr.add;split<;>simp_all);rw[cA];unfold zk;rw[if_pos (by omega)];have eA:=hc (j / 2) (by omega);split
    ·rw[show off+j=off+j / 2*2 by omega];exact eA.1
    ·rw[show off+j=off+j / 2*2+1 by omega];exact eA.2) (by simp[qE,zp]) (fun v hv=>(Array.all_eq_true_iff_forall_mem.1 (zAr _)) v (by simpa[qE]using hv))
  unfold Oper.wp;simp[execOp,ho,resolve,invoke,builtin,hd,hs,aA,Result.andThen];refine h _ _ ?_ (zF.setRow _ _ _);show _=_;rw[setRow_heap w g _ _ 155 (0,0) hg];have e0:((zp fun _=>0).toList.drop 16) = []:=List.drop_eq_nil_of_le (by simp[zp]);simp[qE,qB,e0]
theorem zDp(v0 v1 v2:Value)(lo hi:Nat)(s:zL)(w:World)(h1:qI w lo hi v0 v1 v2 s)(hk:s.kn=0\/s.kn=8) :
  Calls Tryz.prog 162 #[.agg #[v0,v1,v2]] w fun e w'=>e = .returned (.agg (qE s))/\Below w.heap.size w w':=by
 obtain⟨rfl,⟨m1,a,c,rfl,mc,g1⟩,rfl,m2⟩:=h1;unfold maxLen at m1 m2;have G1:Hid (0<s.kn->∃b off,a=some ⟨b,off,none⟩/\lo<=b/\b<hi/\∀i,i<s.kn->w.cell? ⟨b,off+i*2,none⟩=some (.int .i64 (s.ks i))/\w.cell? ⟨b,off+i*2+1,none⟩=some (.int .i64 (s.kb i))):=g1;have Hk:Hid (s.kn=0\/s.kn=8):=hk;clear g1 hk;go_enter Tryz.func162,Tryz.ntmps162;go_wp2_with fail;obtain⟨W,hW⟩:∃W:World,W=((w.alloc (.cells #[.int .i64 s.zRU,.slice a s.kn c,.string s.data] 127)).alloc (.cells #[Value.int .i64 0,Value.int .i64 0,Value.int .i64 0,Value.int .i64 0,Value.int .i64 0,Value.int .i64 0,Value.int .i64 0,Value.int .i64 0,Value.int .i64 0,Value.int .i64 0,Value.int .i64 0,Value.int .i64 0,Value.int .i64 0,Value.int .i64 0,Value.int .i64 0,Value.int .i64 0] 155)).alloc (.cells #[Value.int .i64 0,Value.int .i64 0,Value.int .i64 0,Value.int .i64 0,Value.int .i64 0,Value.int .i64 0,Value.int .i64 0,Value.int .i64 0,Value.int .i64 0,Value.int .i64 0,Value.int .i64 0,Value.int .i64 0,Value.int .i64 0,Value.int .i64 0,Value.int .i64 0,Value.int .i64 0] 155):=⟨_,rfl⟩;have iA:(#[Value.int .i64 0,Value.int .i64 0,Value.int .i64 0,Value.int .i64 0,Value.int .i64 0,Value.int .i64 0,Value.int .i64 0,Value.int .i64 0,Value.int .i64 0,Value.int .i64 0,Value.int .i64 0,Value.int .i64 0,Value.int .i64 0,Value.int .i64 0,Value.int .i64 0,Value.int .i64 0]:Array Value)=zp (fun _=>0):=rfl;have hb:Below w.heap.size w W:=by rw[hW];exact zA (zA (zC _ _) (zC _ _)) (zC _ _)
 have Hx:Hid (yT W w.heap.size (.int .i64 s.zRU) (.slice a s.kn c) (.string s.data)):=by rw[hW];exact((yT.zRL w _ _ _ _).zRJ (zC _ _)).zRJ (zC _ _)
 have bA:=zGw w (.cells #[.int .i64 s.zRU,.slice a s.kn c,.string s.data] 127) (.cells #[Value.int .i64 0,Value.int .i64 0,Value.int .i64 0,Value.int .i64 0,Value.int .i64 0,Value.int .i64 0,Value.int .i64 0,Value.int .i64 0,Value.int .i64 0,Value.int .i64 0,Value.int .i64 0,Value.int .i64 0,Value.int .i64 0,Value.int .i64 0,Value.int .i64 0,Value.int .i64 0] 155) (.cells #[Value.int .i64 0,Value.int .i64 0,Value.int .i64 0,Value.int .i64 0,Value.int .i64 0,Value.int .i64 0,Value.int .i64 0,Value.int .i64 0,Value.int .i64 0,Value.int .i64 0,Value.int .i64 0,Value.int .i64 0,Value.int .i64 0,Value.int .i64 0,Value.int .i64 0,Value.int .i64 0] 155);rw[<-hW]at bA;have HR:Hid (W.heap[w.heap.size+1]?=some (.cells (zp fun _=>0) 155 (0,0))):=bA.1;have HG:Hid (W.heap[w.heap.size+1+1]?=some (.cells (zp fun _=>0) 155 (0,0))):=bA.2.1;have kA:w.heap.size+1+1<W.heap.size:=bA.2.2;clear bA;have HC:Hid (s.kn=0\/(s.kn=8/\∃b off,a=some ⟨b,off,none⟩/\∀i,i<s.kn->W.cell? ⟨b,off+i*2,none⟩=some (.int .i64 (s.ks i))/\W.cell? ⟨b,off+i*2+1,none⟩=some (.int .i64 (s.kb i)))):=by
  rcases Hk.out with h | h
  ·exact Or.inl h
  ·obtain⟨b,off,ha,_,_,k1⟩:=G1.out (by omega);exact Or.inr ⟨h,b,off,ha,fun i hi=>⟨(hb.cell (zD (k1 i hi).1)).trans (k1 i hi).1,(hb.cell (zD (k1 i hi).2)).trans (k1 i hi).2⟩⟩
 rw[<-hW];clear hW iA;obtain⟨⟨x0,x1⟩,⟨x2,x3⟩,⟨x4,x5⟩⟩:=Hx.out
 go_region_law (refine zH0 rfl (.tmp 4) (.tmp 6) rfl (w.heap.size+1+1) a c s (by simp[Act.eval]) (by simp[Act.eval]) HG.out HC.out ?_;intro w1 cv jA dA)
 have eA:w1.heap[w.heap.size+1]?=some (.cells (zp fun _=>0) 155 (0,0)):=(dA.block _ (by show _<W.heap.size;omega) (by omega)).trans HR.out;have fA:Hid (w1.heap[w.heap.size+1]?=some (.cells (zp fun _=>0) 155 (0,0))):=eA;have gA:Below w.heap.size w w1:=hb.drew.trans (dA.zRJ (by show _<=W.heap.size;omega) (by intro k hk;omega));clear eA dA x0 x1 x2 x3 x4 x5;have cA:(Tryz.prog.info? 155).map (·.size)=some (qE s).size:=by rw[qE,qB];exact zBt
 have aA:Hid ((Tryz.prog.info? 155).map (·.size)=some (qE s).size):=cA;clear cA;go_wp2_with (first
  | (refine wpList_load_row rfl 155 (.tmp 3) rfl (w.heap.size+1+1) rfl 155 (qE s) (0,0) _ jA.out zHE rfl aA.out ?_)
  | (refine wpList_store_row rfl 155 (.tmp 2) (.tmp 8) rfl (w.heap.size+1) (qE s) rfl rfl 155 (zp fun _=>0) fA.out aA.out (by rw[qE,qB,qB]) (zAr _) ?_))
 refine bodyPost_ret (v:=.agg (qE s)) (results_cell_row (P:=Tryz.prog) (ty:=155) Tryz.results162 _ _ (w.heap.size+1) 155 (qE s) (0,0) _ rfl (setRow_heap _ _ _ _ _ _ fA.out) zHE rfl aA.out) rfl ⟨rfl,?_⟩;exact below_setRow gA (by omega) _
def zAU(n:Nat)(f:Nat->zL)(b ks kb rs rb:Int):Prop:=
 ∃ps pb,zBb n f ks ps pb/\(((zCC ks kb 0 0\/b<pb)/\rs=0/\rb=0)\/(¬(zCC ks kb 0 0\/b<pb)/\rs=ps/\rb=pb))
theorem zJy(v:Value)(n lo hi:Nat)(f:Nat->zL)(ks kb b:Int)(w:World)(h1:qA w lo hi v n f) :
  Calls Tryz.prog 221 #[v,.agg #[.int .i64 ks,.int .i64 kb],.int .i64 b] w fun e w'=>(∃rs rb,e = .returned (.agg #[.int .i64 rs,.int .i64 rb])/\zAU n f b ks kb rs rb)/\Below w.heap.size w w':=by
 have Hi:Hid (qA w lo hi v n f):=h1;obtain⟨m1,a,c,rfl,mc,g1⟩:=h1;clear g1;have fA:Hid (Below w.heap.size w ((w.alloc (.cells #[.int .i64 ks,.int .i64 kb] 61)).alloc (.cells #[.int .i64 0,.int .i64 0] 61))):=zA (zC _ _) (zC _ _);go_enter Tryz.func221,Tryz.ntmps221;go_wp2_with fail;refine(zEb _ n lo hi f _ _ (Hi.out.zRJ fA.out)).mono ?_;rintro e w1 ⟨⟨ps,pb,rfl,hp⟩,bA⟩;have Hp:Hid (zBb n f ks ps pb):=hp;have HX:Hid (zc w1 w.heap.size (.int .i64 ks) (.int .i64 kb)):=((zc.zRL w _ _ _).zRJ (zC _ _)).zRJ bA;have HR:Hid (zc w1 (w.heap.size+1) (.int .i64 0) (.int .i64 0)):=by
  have:=(zc.zRL (w.alloc (.cells #[.int .i64 ks,.int .i64 kb] 61)) (.int .i64 0) (.int .i64 0) 61).zRJ bA;rw[World.size_alloc]at this;exact this
 have gA:=zA fA.out bA;have hz:w.heap.size<w1.heap.size:=HX.out.1.lt;have iA:w.heap.size+1<w1.heap.size:=HR.out.1.lt;clear hp bA;obtain⟨⟨x0,x1⟩,⟨x2,x3⟩⟩:=HX.out;obtain⟨⟨y0,y1⟩,⟨y2,y3⟩⟩:=HR.out;have HY:=fun u0 u1=>(HR.out.put u0 u1).zRJ (zC _ (.cells #[.int .i64 ps,.int .i64 pb] 61))
 have dA:Hid (∀u0 u1,zc (((w1.setCell ⟨w.heap.size+1,0,none⟩ u0).setCell ⟨w.heap.size+1,1,none⟩ u1).alloc (.cells #[.int .i64 ps,.int .i64 pb] 61)) (w.heap.size+1) u0 u1):=HY;clear HY;have cA:Hid (∀u0 u1,Below w.heap.size w (((w1.setCell ⟨w.heap.size+1,0,none⟩ u0).setCell ⟨w.heap.size+1,1,none⟩ u1).alloc (.cells #[.int .i64 ps,.int .i64 pb] 61))):=fun u0 u1=>((gA.setCell (by show _<=w.heap.size+1;omega) _).setCell (by show _<=w.heap.size+1;omega) _).alloc (by simp;omega) _
 by_cases aA:zCC ks kb 0 0
 ·obtain⟨rfl,rfl⟩:=aA;have HK:Hid (zAU n f b 0 0 0 0):=⟨ps,pb,Hp.out,Or.inl ⟨Or.inl ⟨rfl,rfl⟩,rfl,rfl⟩⟩;go_wp2;have hy:=dA.out (.int .i64 0) (.int .i64 0);refine bodyPost_ret (v:=.agg #[.int .i64 0,.int .i64 0]) (by simp[results,Tryz.results221,go_sem,hy.1.1,hy.2.1]) rfl ⟨⟨_,_,rfl,HK.out⟩,cA.out _ _⟩
 ·have HN:Hid (¬zCC ks kb 0 0):=aA;have e0:(ks == 0)=false\/(ks == 0)=true/\(kb == 0)=false:=by
   by_cases h:ks=0
   ·right;refine⟨by simp[h],?_⟩;have:kb≠0:=fun h'=>aA ⟨h,h'⟩
    simp[this]
   ·left;simp[h]
  clear aA;by_cases eA:b<pb
  ·have HK:Hid (zAU n f b ks kb 0 0):=⟨ps,pb,Hp.out,Or.inl ⟨Or.inr eA,rfl,rfl⟩⟩;have hy:=dA.out (.int .i64 0) (.int .i64 0);have Hy:Hid (zc (((w1.setCell ⟨w.heap.size+1,0,none⟩ (.int .i64 0)).setCell ⟨w.heap.size+1,1,none⟩ (.int .i64 0)).alloc (.cells #[.int .i64 ps,.int .i64 pb] 61)) (w.heap.size+1) (.int .i64 0) (.int .i64 0)):=hy;clear hy;rcases e0 with e0 | ⟨e0,e1⟩
   all_goals
    go_wp2;have hy:=Hy.out;refine bodyPost_ret (v:=.agg #[.int .i64 0,.int .i64 0]) (by simp[results,Tryz.results221,go_sem,hy.1.1,hy.2.1]) rfl ⟨⟨_,_,rfl,HK.out⟩,cA.out _ _⟩
  ·have HK:Hid (zAU n f b ks kb ps pb):=⟨ps,pb,Hp.out,Or.inr ⟨fun h=>by rcases h with h | h;exact HN.out h;exact eA h,rfl,rfl⟩⟩;rcases e0 with e0 | ⟨e0,e1⟩
   all_goals
    go_wp2;have hy:=dA.out (.int .i64 ps) (.int .i64 pb);refine bodyPost_ret (v:=.agg #[.int .i64 ps,.int .i64 pb]) (by simp[results,Tryz.results221,go_sem,hy.1.1,hy.2.1]) rfl ⟨⟨_,_,rfl,HK.out⟩,cA.out _ _⟩
def zAH(w:World)(v:Value)(n:Nat)(f:Nat->ByteArray):Prop:=
 n<=1000/\∃a c,v = .slice a n c/\(∀i,i<n->(f i).size<=maxLen)/\(0<n->∃b off,a=some ⟨b,off,none⟩/\∀i,i<n->w.cell? ⟨b,off+i,none⟩=some (.string (f i)))
theorem zAH.zRJ{w w':World}{v:Value}{n:Nat}{f:Nat->ByteArray}(h:zAH w v n f)(t:Below w.heap.size w w'):zAH w' v n f:=by
 obtain⟨m,a,c,hv,hs,hx⟩:=h;refine⟨m,a,c,hv,hs,fun h0=>?_⟩;obtain⟨b,off,ha,hc⟩:=hx h0;exact⟨b,off,ha,fun i hi=>(t.cell (zD (hc i hi))).trans (hc i hi)⟩
theorem zAH.cells{w:World}{a:Option Addr}{c n:Nat}{f:Nat->ByteArray}(h:zAH w (.slice a n c) n f){i:Nat}(hi:i<n):∃b off,a=some ⟨b,off,none⟩/\w.cell? ⟨b,off+i,none⟩=some (.string (f i)):=by
 obtain⟨m,a0,c0,hv,hs,hx⟩:=h;simp only[Value.slice.injEq,true_and]at hv;obtain⟨rfl,rfl⟩:=hv;obtain⟨b,off,ha,hc⟩:=hx (by omega);exact⟨b,off,ha,hc i hi⟩
theorem zNp(s:ByteArray)(w:World)(hs:s.size<=maxLen):Calls Tryz.prog 164 #[.string s] w fun e w'=>zG (8000<s.size) e/\Below w.heap.size w w':=by
 unfold maxLen at hs;by_cases h:8000<s.size
 ·have h':(8000:Int)<(s.size:Int):=(by omega);have H:=zd h;clear h;go_enter Tryz.func164,Tryz.ntmps164;go_wp2;go_ret;exact⟨zG.yes H.out,Below.refl _ _⟩
 ·have h':¬(8000:Int)<(s.size:Int):=(by omega);have H:=zd h;clear h;go_enter Tryz.func164,Tryz.ntmps164;go_wp2;go_ret;exact⟨zG.no H.out,Below.refl _ _⟩
theorem zOz(s:ByteArray)(w:World)(hs:s.size<=maxLen):Calls Tryz.prog 166 #[.string s] w fun e w'=>zG (¬yM s) e/\Below w.heap.size w w':=by
 go_enter Tryz.func166,Tryz.ntmps166;go_wp2_with fail;refine(zDX s w hs).mono ?_;rintro e w1 ⟨⟨t,rfl,ht⟩,rfl⟩;by_cases hf:yM s
 ·obtain rfl:t=true:=ht.2 hf;have HF:=zd hf;clear ht hf;go_wp2;go_ret;exact⟨zG.no (fun h=>h HF.out),Below.refl _ _⟩
 ·obtain rfl:t=false:=zQ ht hf;have HF:=zd hf;clear ht hf;go_wp2;go_ret;exact⟨zG.yes HF.out,Below.refl _ _⟩
theorem zLu(v:Value)(n:Nat)(f:Nat->ByteArray)(w:World)(h:zAH w v n f) :
  Calls Tryz.prog 201 #[v,.func (.func 164) #[] #[]] w fun e w'=>((∃i:Nat,i<n/\8000<(f i).size/\e = .returned (.int .i64 (i:Int)))\/((∀j,j<n->¬8000<(f j).size)/\e = .returned (.int .i64 (-1))))/\Below w.heap.size w w':=by
 have Hp:=zd h;obtain⟨m1,a,c,rfl,hs,-⟩:=h;have Hs:=zd hs;clear hs;go_enter Tryz.func201,Tryz.ntmps201;go_wp2
 go_loopw [8] (fun i wr=>∃k:Nat,k<=n/\i = .int .i64 k/\(∀j,j<k->¬8000<(f j).size)/\Below w.heap.size w wr) (fun i _=>n - (intOf i).toNat)
 case atStart=>exact⟨0,Nat.zero_le _,rfl,fun j hj=>absurd hj (Nat.not_lt_zero _),Below.refl _ _⟩
 case round=>
  obtain⟨k,hk,rfl,bA,hb⟩:=hrel;have aA:=zd bA;clear bA;by_cases cA:k<n
  ·have gA:(k:Int)<(n:Int):=(by omega);obtain⟨b,off,rfl,q0⟩:=(Hp.out.zRJ hb).cells cA;have fA:=Hs.out k cA;go_wp2_with fail;refine(zNp (f k) _ fA).mono ?_;rintro e w1 ⟨⟨t,rfl,ht⟩,dA⟩;have eA:=zA hb dA;clear dA q0;by_cases hf:8000<(f k).size
   ·obtain rfl:t=true:=ht.2 hf;have HF:=zd hf;clear ht hf;go_wp2;go_ret;exact⟨Or.inl ⟨k,cA,HF.out,rfl⟩,eA⟩
   ·obtain rfl:t=false:=zQ ht hf;have HF:=zd hf;clear ht hf;go_wp2;go_roundw
    case rel=>
     refine⟨k+1,by omega,by go_num,fun j hj=>?_,eA⟩;by_cases e:j=k
     ·subst e;exact HF.out
     ·exact aA.out j (by omega)
    case measure=>simp[intOf];omega
  ·obtain rfl:k=n:=(by omega);go_wp2;go_ret;exact⟨Or.inr ⟨aA.out,rfl⟩,hb⟩
theorem zOT(v:Value)(n:Nat)(f:Nat->ByteArray)(w:World)(h:zAH w v n f) :
  Calls Tryz.prog 163 #[v,.func (.func 164) #[] #[]] w fun e w'=>zG (∃i,i<n/\8000<(f i).size) e/\Below w.heap.size w w':=by
 have Hp:=zd h;obtain⟨m1,a,c,rfl,hs,-⟩:=h;go_enter Tryz.func163,Tryz.ntmps163;go_wp2_with fail;refine(zLu _ n f w Hp.out).mono ?_;rintro e w1 ⟨hr,aA⟩;rcases hr with⟨i,hi,hP,rfl⟩ | ⟨bA,rfl⟩
 ·have HP:=zd (show ∃i,i<n/\8000<(f i).size from⟨i,hi,hP⟩);have h0:(0:Int)<=(i:Int):=(by omega);clear hP;go_wp2;go_ret;exact⟨zG.yes HP.out,aA⟩
 ·have HP:=zd bA;clear bA;go_wp2;go_ret;exact⟨zG.no fun ⟨i,hi,hq⟩=>HP.out i hi hq,aA⟩
theorem zL1(v:Value)(n:Nat)(f:Nat->ByteArray)(w:World)(h:zAH w v n f) :
  Calls Tryz.prog 201 #[v,.func (.func 166) #[] #[]] w fun e w'=>((∃i:Nat,i<n/\¬yM (f i)/\e = .returned (.int .i64 (i:Int)))\/((∀j,j<n->¬¬yM (f j))/\e = .returned (.int .i64 (-1))))/\Below w.heap.size w w':=by
 have Hp:=zd h;obtain⟨m1,a,c,rfl,hs,-⟩:=h;have Hs:=zd hs;clear hs;go_enter Tryz.func201,Tryz.ntmps201;go_wp2
 go_loopw [8] (fun i wr=>∃k:Nat,k<=n/\i = .int .i64 k/\(∀j,j<k->¬¬yM (f j))/\Below w.heap.size w wr) (fun i _=>n - (intOf i).toNat)
 case atStart=>exact⟨0,Nat.zero_le _,rfl,fun j hj=>absurd hj (Nat.not_lt_zero _),Below.refl _ _⟩
 case round=>
  obtain⟨k,hk,rfl,bA,hb⟩:=hrel;have aA:=zd bA;clear bA;by_cases cA:k<n
  ·have gA:(k:Int)<(n:Int):=(by omega);obtain⟨b,off,rfl,q0⟩:=(Hp.out.zRJ hb).cells cA;have fA:=Hs.out k cA;go_wp2_with fail;refine(zOz (f k) _ fA).mono ?_;rintro e w1 ⟨⟨t,rfl,ht⟩,dA⟩;have eA:=zA hb dA;clear dA q0;by_cases hf:¬yM (f k)
   ·obtain rfl:t=true:=ht.2 hf;have HF:=zd hf;clear ht hf;go_wp2;go_ret;exact⟨Or.inl ⟨k,cA,HF.out,rfl⟩,eA⟩
   ·obtain rfl:t=false:=zQ ht hf;have HF:=zd hf;clear ht hf;go_wp2;go_roundw
    case rel=>
     refine⟨k+1,by omega,by go_num,fun j hj=>?_,eA⟩;by_cases e:j=k
     ·subst e;exact HF.out
     ·exact aA.out j (by omega)
    case measure=>simp[intOf];omega
  ·obtain rfl:k=n:=(by omega);go_wp2;go_ret;exact⟨Or.inr ⟨aA.out,rfl⟩,hb⟩
theorem zOZ(v:Value)(n:Nat)(f:Nat->ByteArray)(w:World)(h:zAH w v n f) :
  Calls Tryz.prog 163 #[v,.func (.func 166) #[] #[]] w fun e w'=>zG (∃i,i<n/\¬yM (f i)) e/\Below w.heap.size w w':=by
 have Hp:=zd h;obtain⟨m1,a,c,rfl,hs,-⟩:=h;go_enter Tryz.func163,Tryz.ntmps163;go_wp2_with fail;refine(zL1 _ n f w Hp.out).mono ?_;rintro e w1 ⟨hr,aA⟩;rcases hr with⟨i,hi,hP,rfl⟩ | ⟨bA,rfl⟩
 ·have HP:=zd (show ∃i,i<n/\¬yM (f i)from⟨i,hi,hP⟩);have h0:(0:Int)<=(i:Int):=(by omega);clear hP;go_wp2;go_ret;exact⟨zG.yes HP.out,aA⟩
 ·have HP:=zd bA;clear bA;go_wp2;go_ret;exact⟨zG.no fun ⟨i,hi,hq⟩=>HP.out i hi hq,aA⟩
structure qC where
 name:ByteArray
 origin:Int
 zRT:Int
 rs:Int
 rb:Int
 dn:Nat
 ds:Nat->Int
 db:Nat->Int
structure zm where
 id:Int
 name:ByteArray
 set:ByteArray
 zRT:Int
 time:Int
 rs:Int
 rb:Int
 dn:Nat
 ds:Nat->Int
 db:Nat->Int
structure zH where
 zRQ:zJ
 time:Int
 next:Int
 sn:Nat
 zRS:Nat->qC
 pn:Nat
 zRP:Nat->zm
structure zBO (w:World) (b o lo hi:Nat) (vd:Value) (s:qC):Prop where
 c0:w.cell? ⟨b,o,none⟩=some (.string s.name)
 c1:w.cell? ⟨b,o+1,none⟩=some (.int .i64 s.origin)
 c2:w.cell? ⟨b,o+2,none⟩=some (.int .i64 s.zRT)
 c3:w.cell? ⟨b,o+3,none⟩=some (.int .i64 s.rs)
 c4:w.cell? ⟨b,o+4,none⟩=some (.int .i64 s.rb)
 c5:w.cell? ⟨b,o+5,none⟩=some vd
 zRX:zR w lo hi vd s.dn s.ds s.db
 zRZ:s.name.size<=maxLen
theorem zBO.zRJ{w w':World}{b o lo hi:Nat}{vd:Value}{s:qC}(h:zBO w b o lo hi vd s)(t:Below w.heap.size w w'):zBO w' b o lo hi vd s:=
 ⟨(t.cell (zD h.c0)).trans h.c0,(t.cell (zD h.c1)).trans h.c1,(t.cell (zD h.c2)).trans h.c2,(t.cell (zD h.c3)).trans h.c3,(t.cell (zD h.c4)).trans h.c4,(t.cell (zD h.c5)).trans h.c5,h.zRX.zRJ t,h.zRZ⟩
structure zAs (w:World) (b o lo hi:Nat) (vd:Value) (s:zm):Prop where
 c0:w.cell? ⟨b,o,none⟩=some (.int .i64 s.id)
 c1:w.cell? ⟨b,o+1,none⟩=some (.string s.name)
 c2:w.cell? ⟨b,o+2,none⟩=some (.string s.set)
 c3:w.cell? ⟨b,o+3,none⟩=some (.int .i64 s.zRT)
 c4:w.cell? ⟨b,o+4,none⟩=some (.int .i64 s.time)
 c5:w.cell? ⟨b,o+5,none⟩=some (.int .i64 s.rs)
 c6:w.cell? ⟨b,o+6,none⟩=some (.int .i64 s.rb)
 c7:w.cell? ⟨b,o+7,none⟩=some vd
 zRX:zR w lo hi vd s.dn s.ds s.db
 zRZ:s.name.size<=maxLen/\s.set.size<=maxLen
theorem zAs.zRJ{w w':World}{b o lo hi:Nat}{vd:Value}{s:zm}(h:zAs w b o lo hi vd s)(t:Below w.heap.size w w'):zAs w' b o lo hi vd s:=
 ⟨(t.cell (zD h.c0)).trans h.c0,(t.cell (zD h.c1)).trans h.c1,(t.cell (zD h.c2)).trans h.c2,(t.cell (zD h.c3)).trans h.c3,(t.cell (zD h.c4)).trans h.c4,(t.cell (zD h.c5)).trans h.c5,(t.cell (zD h.c6)).trans h.c6,(t.cell (zD h.c7)).trans h.c7,h.zRX.zRJ t,h.zRZ⟩
def yW(w:World)(lo hi:Nat)(v:Value)(n:Nat)(f:Nat->qC):Prop:=
 n<=maxLen/\∃a cap,v = .slice a n cap/\n<=cap/\(0<n->∃b off,a=some ⟨b,off,none⟩/\lo<=b/\b<hi/\∀i,i<n->∃vd,zBO w b (off+i*6) lo hi vd (f i))
def yA(w:World)(lo hi:Nat)(v:Value)(n:Nat)(f:Nat->zm):Prop:=
 n<=maxLen/\∃a cap,v = .slice a n cap/\n<=cap/\(0<n->∃b off,a=some ⟨b,off,none⟩/\lo<=b/\b<hi/\∀i,i<n->∃vd,zAs w b (off+i*8) lo hi vd (f i))
theorem yW.zRJ{w w':World}{lo hi:Nat}{v:Value}{n:Nat}{f:Nat->qC}(h:yW w lo hi v n f)(t:Below w.heap.size w w'):yW w' lo hi v n f:=by
 obtain⟨h0,a,bA,hv,aA,hc⟩:=h;refine⟨h0,a,bA,hv,aA,fun hn=>?_⟩;obtain⟨b,off,ha,h1,h2,h3⟩:=hc hn;refine⟨b,off,ha,h1,h2,fun i hi=>?_⟩;obtain⟨vd,hs⟩:=h3 i hi;exact⟨vd,hs.zRJ t⟩
theorem yA.zRJ{w w':World}{lo hi:Nat}{v:Value}{n:Nat}{f:Nat->zm}(h:yA w lo hi v n f)(t:Below w.heap.size w w'):yA w' lo hi v n f:=by
 obtain⟨h0,a,bA,hv,aA,hc⟩:=h;refine⟨h0,a,bA,hv,aA,fun hn=>?_⟩;obtain⟨b,off,ha,h1,h2,h3⟩:=hc hn;refine⟨b,off,ha,h1,h2,fun i hi=>?_⟩;obtain⟨vd,hs⟩:=h3 i hi;exact⟨vd,hs.zRJ t⟩
theorem yW.cells{w:World}{lo hi:Nat}{a:Option Addr}{n c:Nat}{f:Nat->qC}(h:yW w lo hi (.slice a n c) n f){i:Nat}(hi':i<n):∃b off vd,a=some ⟨b,off,none⟩/\zBO w b (off+i*6) lo hi vd (f i):=by
 obtain⟨h0,a2,bA,hv,aA,hx⟩:=h;simp only[Value.slice.injEq,true_and]at hv;obtain⟨rfl,rfl⟩:=hv;obtain⟨b,off,ha,h1,h2,h3⟩:=hx (by omega);obtain⟨vd,hs⟩:=h3 i hi';exact⟨b,off,vd,ha,hs⟩
theorem yA.cells{w:World}{lo hi:Nat}{a:Option Addr}{n c:Nat}{f:Nat->zm}(h:yA w lo hi (.slice a n c) n f){i:Nat}(hi':i<n):∃b off vd,a=some ⟨b,off,none⟩/\zAs w b (off+i*8) lo hi vd (f i):=by
 obtain⟨h0,a2,bA,hv,aA,hx⟩:=h;simp only[Value.slice.injEq,true_and]at hv;obtain⟨rfl,rfl⟩:=hv;obtain⟨b,off,ha,h1,h2,h3⟩:=hx (by omega);obtain⟨vd,hs⟩:=h3 i hi';exact⟨b,off,vd,ha,hs⟩
structure zl (w:World) (lo hi:Nat) (v0 v1 v2 v3:Value) (W:zH):Prop where
 zRQ:zy w lo hi v0 v1 W.zRQ
 zRS:yW w lo hi v2 W.sn W.zRS
 zRP:yA w lo hi v3 W.pn W.zRP
theorem zl.zRJ{w w':World}{lo hi:Nat}{v0 v1 v2 v3:Value}{W:zH}(h:zl w lo hi v0 v1 v2 v3 W)(t:Below w.heap.size w w'):zl w' lo hi v0 v1 v2 v3 W:=⟨h.zRQ.zRJ t,h.zRS.zRJ t,h.zRP.zRJ t⟩
abbrev zz(v0 v1 v2 v3:Value)(W:zH):Value:=.agg #[v0,v1,.int .i64 W.time,.int .i64 W.next,v2,v3]
def qz(W:zH)(id:Int)(k:Nat):Prop:=k<W.pn/\(W.zRP k).id=id/\∀j,j<k->(W.zRP j).id≠id
def zFe(W:zH)(name:ByteArray)(k:Nat):Prop:=k<W.sn/\(W.zRS k).name=name/\∀j,j<k->(W.zRS j).name≠name
theorem qz.uniq{W:zH}{id:Int}{i j:Nat}(h:qz W id i)(h':qz W id j):i=j:=by
 rcases Nat.lt_trichotomy i j with e | e | e
 ·exact absurd h.2.1 (h'.2.2 i e)
 ·exact e
 ·exact absurd h'.2.1 (h.2.2 j e)
theorem zFe.uniq{W:zH}{name:ByteArray}{i j:Nat}(h:zFe W name i)(h':zFe W name j):i=j:=by
 rcases Nat.lt_trichotomy i j with e | e | e
 ·exact absurd h.2.1 (h'.2.2 i e)
 ·exact e
 ·exact absurd h'.2.1 (h.2.2 j e)
def zi(w:World)(b:Nat)(v0 v1 v2 v3 v4 v5:Value):Prop:=zX w b 0 v0/\zX w b 1 v1/\zX w b 2 v2/\zX w b 3 v3/\zX w b 4 v4/\zX w b 5 v5
theorem zi.zRJ{w w':World}{b:Nat}{v0 v1 v2 v3 v4 v5:Value}(h:zi w b v0 v1 v2 v3 v4 v5)(t:Below w.heap.size w w'):zi w' b v0 v1 v2 v3 v4 v5:=⟨h.1.zRJ t,h.2.1.zRJ t,h.2.2.1.zRJ t,h.2.2.2.1.zRJ t,h.2.2.2.2.1.zRJ t,h.2.2.2.2.2.zRJ t⟩
theorem zi.zRR{S:Nat->Prop}{w w':World}{b:Nat}{v0 v1 v2 v3 v4 v5:Value}(h:zi w b v0 v1 v2 v3 v4 v5)(t:zF S w w')(hs:¬S b):zi w' b v0 v1 v2 v3 v4 v5:=⟨h.1.zRR t hs,h.2.1.zRR t hs,h.2.2.1.zRR t hs,h.2.2.2.1.zRR t hs,h.2.2.2.2.1.zRR t hs,h.2.2.2.2.2.zRR t hs⟩
theorem zi.zRL(w:World)(v0 v1 v2 v3 v4 v5:Value)(t:TypeId):zi (w.alloc (.cells #[v0,v1,v2,v3,v4,v5] t)) w.heap.size v0 v1 v2 v3 v4 v5:=by
 have hb:(w.alloc (.cells #[v0,v1,v2,v3,v4,v5] t)).heap[w.heap.size]?=some (.cells #[v0,v1,v2,v3,v4,v5] t):=heap_alloc_new _ _;exact⟨zI hb rfl,zI hb rfl,zI hb rfl,zI hb rfl,zI hb rfl,zI hb rfl⟩
abbrev put6(w:World)(b:Nat)(u0 u1 u2 u3 u4 u5:Value):World:=(((((w.setCell ⟨b,0,none⟩ u0).setCell ⟨b,1,none⟩ u1).setCell ⟨b,2,none⟩ u2).setCell ⟨b,3,none⟩ u3).setCell ⟨b,4,none⟩ u4).setCell ⟨b,5,none⟩ u5
theorem zi.put{w:World}{b:Nat}{v0 v1 v2 v3 v4 v5:Value}(h:zi w b v0 v1 v2 v3 v4 v5)(u0 u1 u2 u3 u4 u5:Value):zi (put6 w b u0 u1 u2 u3 u4 u5) b u0 u1 u2 u3 u4 u5:=by
 obtain⟨h0,h1,h2,h3,h4,h5⟩:=h;refine⟨?_,?_,?_,?_,?_,?_⟩
 ·exact(((((h0.set _).zRK _ (Or.inr (by omega))).zRK _ (Or.inr (by omega))).zRK _ (Or.inr (by omega))).zRK _ (Or.inr (by omega))).zRK _ (Or.inr (by omega))
 ·exact(((((h1.zRK _ (Or.inr (by omega))).set _).zRK _ (Or.inr (by omega))).zRK _ (Or.inr (by omega))).zRK _ (Or.inr (by omega))).zRK _ (Or.inr (by omega))
 ·exact(((((h2.zRK _ (Or.inr (by omega))).zRK _ (Or.inr (by omega))).set _).zRK _ (Or.inr (by omega))).zRK _ (Or.inr (by omega))).zRK _ (Or.inr (by omega))
 ·exact(((((h3.zRK _ (Or.inr (by omega))).zRK _ (Or.inr (by omega))).zRK _ (Or.inr (by omega))).set _).zRK _ (Or.inr (by omega))).zRK _ (Or.inr (by omega))
 ·exact(((((h4.zRK _ (Or.inr (by omega))).zRK _ (Or.inr (by omega))).zRK _ (Or.inr (by omega))).zRK _ (Or.inr (by omega))).set _).zRK _ (Or.inr (by omega))
 ·exact(((((h5.zRK _ (Or.inr (by omega))).zRK _ (Or.inr (by omega))).zRK _ (Or.inr (by omega))).zRK _ (Or.inr (by omega))).zRK _ (Or.inr (by omega))).set _
theorem zF.put6(w:World)(b:Nat)(u0 u1 u2 u3 u4 u5:Value):zF (fun k=>k=b) w (put6 w b u0 u1 u2 u3 u4 u5):=
 (((((zF.put w b 0 u0).trans (zF.put _ b 1 u1)).trans (zF.put _ b 2 u2)).trans (zF.put _ b 3 u3)).trans (zF.put _ b 4 u4)).trans (zF.put _ b 5 u5)
theorem zB{P:Prop}(h:P):Hid P:=h
def zF5(n:Nat)(P:Nat->Prop)(r:Int):Prop:=(∃k:Nat,k<n/\P k/\(∀j,j<k->¬P j)/\r=k)\/((∀j,j<n->¬P j)/\r = -1)
theorem qH(v0 v1 v2 v3:Value)(lo hi:Nat)(W:zH)(x:Int)(w:World)(h:zl w lo hi v0 v1 v2 v3 W) :
  Calls Tryz.prog 49 #[zz v0 v1 v2 v3 W,.int .i64 x] w fun e w'=>∃r:Int,e = .returned (.int .i64 r)/\zF5 W.pn (fun k=>(W.zRP k).id=x) r/\Below w.heap.size w w':=by
 have Hp:=zB h.zRP;obtain⟨m1,a,c,rfl,mc,_⟩:=id h.zRP;unfold maxLen at m1;clear h;have ha:=zC w (.cells #[v0,v1,.int .i64 W.time,.int .i64 W.next,v2,.slice a W.pn c] 37);have HB:=zB (zi.zRL w v0 v1 (.int .i64 W.time) (.int .i64 W.next) v2 (.slice a W.pn c) 37);go_enter Tryz.func49,Tryz.ntmps49;go_wp2
 go_loopw [5] (fun i wr=>∃k:Nat,k<=W.pn/\i = .int .i64 k/\(∀j,j<k->¬(W.zRP j).id=x)/\zi wr w.heap.size v0 v1 (.int .i64 W.time) (.int .i64 W.next) v2 (.slice a W.pn c)/\Below w.heap.size w wr) (fun i _=>W.pn - (intOf i).toNat)
 case atStart=>exact⟨0,Nat.zero_le _,rfl,fun j hj=>absurd hj (Nat.not_lt_zero _),HB.out,ha⟩
 case round=>
  obtain⟨k,hk,rfl,cA,hX,hb⟩:=hrel;have aA:=zB cA;have HX:=zB hX;clear cA hX;obtain⟨⟨x0,x1⟩,⟨x2,x3⟩,⟨x4,x5⟩,⟨x6,x7⟩,⟨x8,x9⟩,⟨eA,fA⟩⟩:=HX.out;by_cases bA:k<W.pn
  ·have dA:(k:Int)<(W.pn:Int):=(by omega);obtain⟨b,off,vd,rfl,hs⟩:=(Hp.out.zRJ hb).cells bA;have q0:=hs.c0;clear hs;by_cases he:(W.zRP k).id=x
   ·have H:=zB he;rw[he]at q0;clear he;go_wp2;go_ret;exact⟨k,rfl,Or.inl ⟨k,bA,H.out,aA.out,rfl⟩,hb⟩
   ·have H:=zB he;have e0:((W.zRP k).id == x)=false:=(by simp[he]);clear he;go_wp2;go_roundw
    case rel=>
     refine⟨k+1,by omega,by go_num,?_,HX.out,hb⟩;intro j hj;by_cases e:j=k
     ·subst e;exact H.out
     ·exact aA.out j (by omega)
    case measure=>simp[intOf];omega
  ·obtain rfl:k=W.pn:=(by omega);go_wp2;go_ret;exact⟨-1,rfl,Or.inr ⟨aA.out,rfl⟩,hb⟩
theorem zHb(v0 v1 v2 v3:Value)(lo hi:Nat)(W:zH)(x:ByteArray)(w:World)(h:zl w lo hi v0 v1 v2 v3 W) :
  Calls Tryz.prog 27 #[zz v0 v1 v2 v3 W,.string x] w fun e w'=>∃r:Int,e = .returned (.int .i64 r)/\zF5 W.sn (fun k=>(W.zRS k).name=x) r/\Below w.heap.size w w':=by
 have Hp:=zB h.zRS;obtain⟨m1,a,c,rfl,mc,_⟩:=id h.zRS;unfold maxLen at m1;clear h;have ha:=zC w (.cells #[v0,v1,.int .i64 W.time,.int .i64 W.next,.slice a W.sn c,v3] 37);have HB:=zB (zi.zRL w v0 v1 (.int .i64 W.time) (.int .i64 W.next) (.slice a W.sn c) v3 37);go_enter Tryz.func27,Tryz.ntmps27;go_wp2
 go_loopw [5] (fun i wr=>∃k:Nat,k<=W.sn/\i = .int .i64 k/\(∀j,j<k->¬(W.zRS j).name=x)/\zi wr w.heap.size v0 v1 (.int .i64 W.time) (.int .i64 W.next) (.slice a W.sn c) v3/\Below w.heap.size w wr) (fun i _=>W.sn - (intOf i).toNat)
 case atStart=>exact⟨0,Nat.zero_le _,rfl,fun j hj=>absurd hj (Nat.not_lt_zero _),HB.out,ha⟩
 case round=>
  obtain⟨k,hk,rfl,cA,hX,hb⟩:=hrel;have aA:=zB cA;have HX:=zB hX;clear cA hX;obtain⟨⟨x0,x1⟩,⟨x2,x3⟩,⟨x4,x5⟩,⟨x6,x7⟩,⟨x8,x9⟩,⟨eA,fA⟩⟩:=HX.out;by_cases bA:k<W.sn
  ·have dA:(k:Int)<(W.sn:Int):=(by omega);obtain⟨b,off,vd,rfl,hs⟩:=(Hp.out.zRJ hb).cells bA;have q0:=hs.c0;clear hs;by_cases he:(W.zRS k).name=x
   ·have H:=zB he;rw[he]at q0;clear he;go_wp2;go_ret;exact⟨k,rfl,Or.inl ⟨k,bA,H.out,aA.out,rfl⟩,hb⟩
   ·have H:=zB he;have e0:((W.zRS k).name.toList == x.toList)=false:=zD1 he;clear he;go_wp2;go_roundw
    case rel=>
     refine⟨k+1,by omega,by go_num,?_,HX.out,hb⟩;intro j hj;by_cases e:j=k
     ·subst e;exact H.out
     ·exact aA.out j (by omega)
    case measure=>simp[intOf];omega
  ·obtain rfl:k=W.sn:=(by omega);go_wp2;go_ret;exact⟨-1,rfl,Or.inr ⟨aA.out,rfl⟩,hb⟩
def zKu(W:zH)(x s b t:Int):Prop:=(∃k,x≠0/\qz W x k/\s=(W.zRP k).rs/\b=(W.zRP k).rb/\t=(W.zRP k).time)\/((x=0\/∀k,k<W.pn->(W.zRP k).id≠x)/\s=0/\b=0/\t=0)
theorem zAk(v0 v1 v2 v3:Value)(lo hi:Nat)(W:zH)(x:Int)(w:World)(h:zl w lo hi v0 v1 v2 v3 W) :
  Calls Tryz.prog 52 #[zz v0 v1 v2 v3 W,.int .i64 x] w fun e w'=>∃s b t:Int,e = .returned (.tuple #[.agg #[.int .i64 s,.int .i64 b],.int .i64 t])/\zKu W x s b t/\Below w.heap.size w w':=by
 have Hp:=zB h;obtain⟨m1,a,c,rfl,mc,_⟩:=id h.zRP;unfold maxLen at m1;clear h;have ha:=zC w (.cells #[v0,v1,.int .i64 W.time,.int .i64 W.next,v2,.slice a W.pn c] 37);have hB:=zi.zRL w v0 v1 (.int .i64 W.time) (.int .i64 W.next) v2 (.slice a W.pn c) 37;have dA:=zC (w.alloc (.cells #[v0,v1,.int .i64 W.time,.int .i64 W.next,v2,.slice a W.pn c] 37)) (.cells #[.int .i64 0,.int .i64 0] 61);have hR:=zc.zRL (w.alloc (.cells #[v0,v1,.int .i64 W.time,.int .i64 W.next,v2,.slice a W.pn c] 37)) (.int .i64 0) (.int .i64 0) 61;have eA:=hB.zRJ dA;have bA:=zA ha dA;have fA:(w.alloc (.cells #[v0,v1,.int .i64 W.time,.int .i64 W.next,v2,.slice a W.pn c] 37)).heap.size=w.heap.size+1:=World.size_alloc _ _;rw[fA]at hR;clear ha dA hB;go_enter Tryz.func52,Tryz.ntmps52;go_wp2_with fail;generalize ((w.alloc (.cells #[v0,v1,.int .i64 W.time,.int .i64 W.next,v2,.slice a W.pn c] 37)).alloc (.cells #[.int .i64 0,.int .i64 0] 61))=W0 at hR eA bA ⊢;refine(qH v0 v1 v2 _ lo hi W x W0 (Hp.out.zRJ bA)).mono ?_;rintro e w1 ⟨r,rfl,hF,aA⟩;have gA:=hR.zRJ aA;have jA:=eA.zRJ aA;have cA:=zA bA aA;clear hR eA bA aA fA;have HR:=zB gA;have HX:=zB jA;clear gA jA;obtain⟨⟨y0,y1⟩,⟨y2,y3⟩⟩:=HR.out;obtain⟨⟨x0,x1⟩,⟨x2,x3⟩,⟨x4,x5⟩,⟨x6,x7⟩,⟨x8,x9⟩,⟨oA,rA⟩⟩:=HX.out;by_cases hx:x=0
 ·subst hx;clear hF;go_wp2;refine bodyPost_ret (v:=.tuple #[.agg #[.int .i64 0,.int .i64 0],.int .i64 0]) (by simp[results,Tryz.results52,go_sem,y0,y2]) rfl ⟨0,0,0,rfl,Or.inr ⟨Or.inl rfl,rfl,rfl,rfl⟩,?_⟩;exact(cA.setCell (by show w.heap.size<=w.heap.size+1;omega) _).setCell (by show w.heap.size<=w.heap.size+1;omega) _
 ·have Hx:=zB hx;have f0:(x == 0)=false:=(by simp[hx]);clear hx;rcases hF with⟨k,hk,hi',hm,rfl⟩ | ⟨hn,rfl⟩
  ·obtain⟨b,off,vd,rfl,hs⟩:=(Hp.out.zRP.zRJ cA).cells hk;have q4:=hs.c4;have q5:=hs.c5;have q6:=hs.c6;have pA:(k:Int)<(W.pn:Int):=(by omega);have kA:b<w.heap.size:=by
    obtain⟨b2,lA,tA,e2,mA⟩:=Hp.out.zRP.cells hk;cases e2;exact zD mA.c0
   have sA:b≠w.heap.size+1:=(by omega);have nA:w.heap.size≠w.heap.size+1:=(by omega);have Hk:=zB (And.intro hi' hm);clear hs hi' hm kA;have iA:w.heap.size<=w.heap.size+1:=(by omega);generalize w.heap.size+1=R at *;go_wp2;go_region;go_wp2;refine bodyPost_ret (v:=.tuple #[.agg #[.int .i64 (W.zRP k).rs,.int .i64 (W.zRP k).rb],.int .i64 (W.zRP k).time]) (by simp[results,Tryz.results52,go_sem,y0,y2]) rfl ⟨_,_,_,rfl,Or.inl ⟨k,Hx.out,⟨hk,Hk.out.1,Hk.out.2⟩,rfl,rfl,rfl⟩,?_⟩;exact((cA.setCell iA _).setCell iA _).drew
  ·have Hn:=zB hn;clear hn;go_wp2;refine bodyPost_ret (v:=.tuple #[.agg #[.int .i64 0,.int .i64 0],.int .i64 0]) (by simp[results,Tryz.results52,go_sem,y0,y2]) rfl ⟨0,0,0,rfl,Or.inr ⟨Or.inr Hn.out,rfl,rfl,rfl⟩,?_⟩;exact(cA.setCell (by show w.heap.size<=w.heap.size+1;omega) _).setCell (by show w.heap.size<=w.heap.size+1;omega) _
open Go.Maps
def zB4(t:Int):Prop:=0<=t/\t<=1000000
def zE7(s b:Int):Prop:=0<=s/\s<=199/\1<=b/\b<=1000000
def zL7(n:Nat)(f:Nat->Int):Prop:=∀i,i<n->∀k,k<i->f k≠f i
def qx(n:Nat)(f g:Nat->Int):Prop:=n<=200/\(∀i,i<n->zE7 (f i) (g i))/\zL7 n f
def PIn(n:Nat)(f g:Nat->Int)(x y:Int):Prop:=∃j,j<n/\f j=x/\g j=y
def zD9(n:Nat)(f g:Nat->Int)(m:Nat)(f' g':Nat->Int):Prop:=qx n f g/\qx m f' g'/\n=m/\∀i,i<n->PIn m f' g' (f i) (g i)
theorem zL7.inj{n:Nat}{f:Nat->Int}(h:zL7 n f){i k:Nat}(hi:i<n)(hk:k<n)(e:f i=f k):i=k:=by
 rcases Nat.lt_trichotomy i k with h1 | h1 | h1
 ·exact absurd e (h k hk i h1)
 ·exact h1
 ·exact absurd e.symm (h i hi k h1)
theorem zNQ:∀(n m:Nat) (h:Nat->Nat),(∀i,i<n->h i<m)->(∀i k,i<n->k<n->h i=h k->i=k)->n<=m
 | 0,_,_,_,_=>Nat.zero_le _
 | n+1,m,h,h1,h2=>by
  have hm:=h1 n (Nat.lt_succ_self n);have:=zNQ n (m - 1) (fun i=>if h i<h n then h i else h i - 1) (fun i hi=>by
   have:=h1 i (by omega);have:h i≠h n:=fun e=>by have:=h2 i n (by omega) (by omega) e;omega
   show(if h i<h n then h i else h i - 1)<m - 1;split<;>omega) (fun i k hi hk e=>by
   have a1:h i≠h n:=fun e=>by have:=h2 i n (by omega) (by omega) e;omega
   have a2:h k≠h n:=fun e=>by have:=h2 k n (by omega) (by omega) e;omega
   have e':(if h i<h n then h i else h i - 1)=(if h k<h n then h k else h k - 1):=e;refine h2 i k (by omega) (by omega) ?_;split at e'<;>split at e'<;>omega)
  omega
theorem zOG{n:Nat}{f g f' g':Nat->Int}(h1:qx n f g)(h2:qx n f' g')(h:∀i,i<n->PIn n f' g' (f i) (g i)):∀j,j<n->PIn n f g (f' j) (g' j):=by
 intro j hj;by_cases hx:PIn n f g (f' j) (g' j)
 ·exact hx
 ·exfalso;have:=zNQ n (n - 1) (fun i=>if hi:i<n then(if (h i hi).choose<j then(h i hi).choose else(h i hi).choose - 1)else 0) (fun i hi=>by
   have hs:=(h i hi).choose_spec;have bA:(h i hi).choose≠j:=fun e=>hx ⟨i,hi,by rw[<-hs.2.1,e],by rw[<-hs.2.2,e]⟩
   simp only[hi,dif_pos];split<;>omega) (fun i k hi hk e=>by
   have hs:=(h i hi).choose_spec;have aA:=(h k hk).choose_spec;have bA:(h i hi).choose≠j:=fun e=>hx ⟨i,hi,by rw[<-hs.2.1,e],by rw[<-hs.2.2,e]⟩
   have cA:(h k hk).choose≠j:=fun e=>hx ⟨k,hk,by rw[<-aA.2.1,e],by rw[<-aA.2.2,e]⟩
   simp only[hi,hk,dif_pos]at e;have e2:(h i hi).choose=(h k hk).choose:=(by split at e<;>split at e<;>omega);refine h1.2.2.inj hi hk ?_;rw[<-hs.2.1,<-aA.2.1,e2])
  omega
theorem zD9.symm{n m:Nat}{f g f' g':Nat->Int}(h:zD9 n f g m f' g'):zD9 m f' g' n f g:=by
 obtain⟨h1,h2,rfl,h3⟩:=h;exact⟨h2,h1,rfl,zOG h1 h2 h3⟩
def zB0(x:Int):Lit:=.int .i64 x
theorem zHS{x y:Int}(h:x≠y):zB0 x≠zB0 y:=fun e=>h (by unfold zB0 at e;injection e)
theorem zHh(x:Int):WideAt.IsKeyLit (zB0 x):=trivial
def zDc(x:Int):DataW Unit:=.lit (.int .i64 x)
theorem zFZ{x y:Int}(h:zDc x=zDc y):x=y:=by unfold zDc at h;injection h with h;injection h
def seenD(f g:Nat->Int):Nat->DataW Unit
 | 0=>.map []
 | k+1=>(seenD f g k).put (zB0 (f k)) (zDc (g k))
theorem zDN(f g:Nat->Int):∀k,Tidy (seenD f g k)
 | 0=>tidy_empty
 | k+1=>(zDN f g k).put (zHh _) _
theorem zEO(f g:Nat->Int)(x:Int):∀k,Maps.has (seenD f g k) (zB0 x)=true↔∃i,i<k/\f i=x
 | 0=>by
  constructor
  ·intro h;exact absurd h (by simp[seenD,Maps.has])
  ·rintro⟨i,hi,_⟩;omega
 | k+1=>by
  by_cases hx:f k=x
  ·subst hx;exact⟨fun _=>⟨k,by omega,rfl⟩,fun _=>has_put_same (zDN f g k).isMap (zHh _) _⟩
  ·rw[show Maps.has (seenD f g (k+1)) (zB0 x)=Maps.has (seenD f g k) (zB0 x)from has_put_other (zHS (Ne.symm hx)) _,zEO f g x k];constructor
   ·rintro⟨i,hi,e⟩;exact⟨i,by omega,e⟩
   ·rintro⟨i,hi,e⟩;by_cases h:i=k
    ·subst h;exact absurd e hx
    ·exact⟨i,by omega,e⟩
theorem zGk{k:Nat}{f:Nat->Int}:zL7 (k+1) f↔zL7 k f/\∀i,i<k->f i≠f k:=by
 constructor
 ·exact fun h=>⟨fun i hi=>h i (by omega),fun i hi=>h k (by omega) i hi⟩
 ·rintro⟨h1,h2⟩ i hi j hj;by_cases e:i=k
  ·subst e;exact h2 j hj
  ·exact h1 i (by omega) j hj
theorem zGD(f g:Nat->Int):∀k,Maps.size (seenD f g k)<=k/\(Maps.size (seenD f g k)=k↔zL7 k f)
 | 0=>⟨Nat.le_refl _,fun _ i hi=>by omega,fun _=>rfl⟩
 | k+1=>by
  obtain⟨h1,h2⟩:=zGD f g k;have e:Maps.size (seenD f g (k+1))=if Maps.has (seenD f g k) (zB0 (f k))then Maps.size (seenD f g k)else Maps.size (seenD f g k)+1:=size_put (zDN f g k) _
  by_cases hh:Maps.has (seenD f g k) (zB0 (f k))=true
  ·rw[if_pos hh]at e;rw[e,zGk];refine⟨by omega,fun h=>by omega,fun h=>?_⟩;obtain⟨i,hi,he⟩:=(zEO f g (f k) k).1 hh;exact absurd he (h.2 i hi)
  ·rw[if_neg hh]at e;rw[e,zGk,<-h2];refine⟨by omega,fun h=>⟨by omega,fun i hi he=>hh ((zEO f g (f k) k).2 ⟨i,hi,he⟩)⟩,fun h=>by omega⟩
theorem zNV{n:Nat}{f:Nat->Int}(g:Nat->Int)(hd:zL7 n f)(z:DataW Unit):∀k,k<=n->∀i,i<k->(seenD f g k).atKey (zB0 (f i)) z=zDc (g i)
 | 0,_,i,hi=>absurd hi (Nat.not_lt_zero _)
 | k+1,hk,i,hi=>by
  by_cases e:i=k
  ·subst e;exact atKey_put_same (zDN f g i).isMap (zHh _) _ _
  ·exact(atKey_put_other (zHS (fun h=>e (hd.inj (by omega) (by omega) h))) _ _).trans (zNV g hd z k (by omega) i (by omega))
structure zDD (n:Nat) (f g f':Nat->Int) (k:Nat) (D:DataW Unit):Prop where
 tidy:Tidy D
 size:Maps.size D+k=n
 at':∀x,(∀j,j<k->f' j≠x)->(∀i,i<n->f i=x->D.atKey (zB0 x) (zDc 0)=zDc (g i))/\((∀i,i<n->f i≠x)->D.atKey (zB0 x) (zDc 0)=zDc 0)
 has:∀x,Maps.has D (zB0 x)=true↔(∃i,i<n/\f i=x)/\∀j,j<k->f' j≠x
theorem zDD.start{n:Nat}{f g:Nat->Int}(h:qx n f g)(f':Nat->Int):zDD n f g f' 0 (seenD f g n) where
 tidy:=zDN f g n
 size:=by rw[(zGD f g n).2.2 h.2.2];rfl
 at':=fun x _=>⟨fun i hi e=>by subst e;exact zNV g h.2.2 _ n (Nat.le_refl _) i hi,fun aA=>by
  refine atKey_of_not_has ?_ _;rw[Bool.eq_false_iff];intro hh;obtain⟨i,hi,e⟩:=(zEO f g x n).1 hh;exact aA i hi e⟩
 has:=fun x=>by
  rw[zEO];exact⟨fun h=>⟨h,fun j hj=>absurd hj (Nat.not_lt_zero _)⟩,fun h=>h.1⟩
theorem zDD.next{n m:Nat}{f g f' g':Nat->Int}{k:Nat}{D:DataW Unit}(h:zDD n f g f' k D)(h2:qx m f' g')(hk:k<m)(e:D.atKey (zB0 (f' k)) (zDc 0)=zDc (g' k)):zDD n f g f' (k+1) (D.del (zB0 (f' k))):=by
 have bA:Maps.has D (zB0 (f' k))=true:=by
  by_cases hh:Maps.has D (zB0 (f' k))=true
  ·exact hh
  ·rw[atKey_of_not_has (by simpa using hh)]at e;have:=zFZ e;have:=(h2.2.1 k hk).2.2.1;omega
 have hs:=size_del (k:=zB0 (f' k)) h.tidy;rw[bA]at hs;refine⟨h.tidy.del _,?_,fun x hx=>?_,fun x=>?_⟩
 ·have:=h.size;have cA:Maps.size (D.del (zB0 (f' k)))+1=Maps.size D:=hs;omega
 ·have aA:f' k≠x:=hx k (by omega);rw[atKey_del_other (zHS (Ne.symm aA))];exact h.at' x (fun j hj=>hx j (by omega))
 ·by_cases aA:f' k=x
  ·subst aA;rw[has_del_same];exact⟨fun h=>absurd h (by simp),fun h=>absurd rfl (h.2 k (by omega))⟩
  ·rw[has_del_other (zHS (Ne.symm aA)),h.has x];refine and_congr_right fun _=>⟨fun h j hj=>?_,fun h j hj=>h j (by omega)⟩
   by_cases ej:j=k
   ·subst ej;exact aA
   ·exact h j (by omega)
theorem zDD.no{n m:Nat}{f g f' g':Nat->Int}{k:Nat}{D:DataW Unit}(h:zDD n f g f' k D)(h1:qx n f g)(h2:qx m f' g')(hk:k<m){c:Int}(e:D.atKey (zB0 (f' k)) (zDc 0)=zDc c)(hc:c≠g' k):¬zD9 n f g m f' g':=by
 intro hs;obtain⟨i,hi,e1,e2⟩:=hs.symm.2.2.2 k hk;have:=(h.at' (f' k) (fun j hj=>h2.2.2 k hk j hj)).1 i hi e1;rw[e]at this;exact hc ((zFZ this).trans e2)
theorem zDD.end{n m:Nat}{f g f' g':Nat->Int}{D:DataW Unit}(h:zDD n f g f' m D)(h1:qx n f g)(h2:qx m f' g')(aA:∀j,j<m->PIn n f g (f' j) (g' j)):Maps.size D=0↔zD9 n f g m f' g':=by
 have hs:=h.size;constructor
 ·intro h0;obtain rfl:m=n:=(by omega);exact zD9.symm ⟨h2,h1,rfl,aA⟩
 ·intro hp;have:=hp.2.2.1;omega
theorem zDD.in{n m:Nat}{f g f' g':Nat->Int}{k:Nat}{D:DataW Unit}(h:zDD n f g f' k D)(h2:qx m f' g')(hk:k<m)(e:D.atKey (zB0 (f' k)) (zDc 0)=zDc (g' k)):PIn n f g (f' k) (g' k):=by
 by_cases hx:∃i,i<n/\f i=f' k
 ·obtain⟨i,hi,ei⟩:=hx;have:=(h.at' (f' k) (fun j hj=>h2.2.2 k hk j hj)).1 i hi ei;rw[e]at this;exact⟨i,hi,ei,(zFZ this).symm⟩
 ·have:=(h.at' (f' k) (fun j hj=>h2.2.2 k hk j hj)).2 (fun i hi e=>hx ⟨i,hi,e⟩);rw[e]at this;have:=zFZ this;have:=(h2.2.1 k hk).2.2.1;omega
def qd(f g:Nat->Int)(t:Int):Nat->List (Int×Int)
 | 0=>[]
 | k+1=>if t<g k then qd f g t k ++ [(f k,g k)] else qd f g t k
def zBm(f g:Nat->Int)(t:Int):Nat->List (Int×Int)
 | 0=>[]
 | k+1=>if t<g k then zBm f g t k else zBm f g t k ++ [(f k,g k)]
theorem zCL(f g:Nat->Int)(t:Int):∀k,(qd f g t k).length+(zBm f g t k).length=k
 | 0=>rfl
 | k+1=>by
  have:=zCL f g t k;unfold qd zBm;split<;>simp<;>omega
theorem zY{P:Prop}(h:P):Hid P:=h
theorem zR.zRN{w:World}{lo hi:Nat}{a:Option Addr}{n c:Nat}{f g:Nat->Int}(h:zR w lo hi (.slice a n c) n f g){k:Nat}(hk:k<n):∃b off,a=some ⟨b,off,none⟩/\w.cell? ⟨b,off+k*2,none⟩=some (.int .i64 (f k))/\w.cell? ⟨b,off+k*2+1,none⟩=some (.int .i64 (g k)):=by
 obtain⟨_,a2,c2,hv,_,hx⟩:=h;simp only[Value.slice.injEq,true_and]at hv;obtain⟨rfl,rfl⟩:=hv;obtain⟨b,off,ha,_,_,h3⟩:=hx (by omega);exact⟨b,off,ha,(h3 k hk).1,(h3 k hk).2⟩
theorem zKH(x y:Int)(w:World):Calls Tryz.prog 214 #[.agg #[.int .i64 x,.int .i64 y]] w fun e w'=>zG (zE7 x y) e/\Below w.heap.size w w':=by
 have aA:=zC w (.cells #[.int .i64 x,.int .i64 y] 61);by_cases h1:0<=x
 ·by_cases h2:x<200
  ·by_cases h3:qw y
   ·have H:=zY (show zE7 x y from⟨h1,by omega,h3.1,h3.2⟩);have H3:=zY h3;clear h3;go_enter Tryz.func214,Tryz.ntmps214;go_wp2_with (first | (go_at_call 156;refine(qP y _).mono ?_;rintro e w1 ⟨⟨t,rfl,ht⟩,rfl⟩;obtain rfl:t=true:=ht.2 H3.out;clear ht) | fail);go_wp2;go_ret;exact⟨zG.yes H.out,aA⟩
   ·have H:=zY (show ¬zE7 x y from fun h=>h3 ⟨h.2.2.1,h.2.2.2⟩);have H3:=zY h3;clear h3;go_enter Tryz.func214,Tryz.ntmps214;go_wp2_with (first | (go_at_call 156;refine(qP y _).mono ?_;rintro e w1 ⟨⟨t,rfl,ht⟩,rfl⟩;obtain rfl:t=false:=zQ ht H3.out;clear ht) | fail);go_wp2;go_ret;exact⟨zG.no H.out,aA⟩
  ·go_enter Tryz.func214,Tryz.ntmps214;go_wp2;go_ret;exact⟨zG.no fun h=>by have:=h.2.1;omega,aA⟩
 ·go_enter Tryz.func214,Tryz.ntmps214;go_wp2;go_ret;exact⟨zG.no fun h=>by have:=h.1;omega,aA⟩
theorem zQl:Keyed Tryz.prog 2:=int_keyed (q:=.i64) (by kernel_rfl)
theorem zOm:Tryz.prog.underlying 243=some (.map 2 2):=by kernel_rfl
theorem zQM:Tryz.prog.underlying 2=some (.int .i64):=by kernel_rfl
theorem zQ5(w:World):(zeroValue 2).run Tryz.prog w = .ok (.int .i64 0) w:=by kernel_rfl
theorem zII{x:Int}(h0:0<=x)(h1:x<=1000000):(Lit.int .i64 x).wf=true:=WalkArith.wf_i64 (by omega)
def zOv(w:World)(B n:Nat)(D:DataW Unit):Prop:=w.ownsMap Tryz.prog 2 (plainElem Tryz.prog 2) B n D
theorem zE6(v:Value)(n lo hi:Nat)(f g:Nat->Int)(w:World)(h1:zR w lo hi v n f g)(hn:n<=200)(jA:∀i,i<n->zE7 (f i) (g i)) :
  Calls Tryz.prog 215 #[v] w fun e w'=>e = .returned (.map (some w.heap.size))/\zOv w' w.heap.size n (seenD f g n)/\Below w.heap.size w w':=by
 have Hp:=zY h1;have gA:=zY jA;obtain⟨m1,a,c,rfl,mc,_⟩:=id h1;clear h1 jA;have nA:=@run_makeMap Tryz.prog;go_enter Tryz.func215,Tryz.ntmps215;go_wp2
 go_loopw [9] (fun i wr=>∃k:Nat,k<=n/\i = .int .i64 k/\zOv wr w.heap.size k (seenD f g k)/\Below w.heap.size w wr) (fun i _=>n - (intOf i).toNat)
 case atStart=>exact⟨0,Nat.zero_le _,rfl,World.ownsMap_made _ _ _ _,(Below.refl _ _).alloc (Nat.le_refl _) _⟩
 case round=>
  obtain⟨k,hk,rfl,eA,hb⟩:=hrel;have dA:=zY eA;clear eA;by_cases bA:k<n
  ·have mA:(k:Int)<(n:Int):=(by omega);obtain⟨b,off,rfl,q0,q1⟩:=(Hp.out.zRJ hb).zRN bA;have fA:keyOf Tryz.prog 2 (.int .i64 (f k))=some (zB0 (f k)):=keyOf_int_mk zQM (zII (gA.out k bA).1 (by have:=(gA.out k bA).2.1;omega));have kA:=zII (x:=g k) (by have:=(gA.out k bA).2.2.1;omega) (gA.out k bA).2.2.2;have iA:=zY fA;have lA:=zY kA;clear fA kA;go_wp2_with (first
    | (at_mapUpdate;refine wpList_mapUpdate_own _ rfl _ _ _ 243 rfl 2 2 zQl zOm _ w.heap.size k _ rfl (dA.out.alloc _) (by unfold maxLen;omega) _ _ _ rfl rfl iA.out _ [] (plainElem_int zQM lA.out) ?_;intro w1 cA aA)
    | go_in)
   go_roundw
   case rel=>exact⟨k+1,by omega,by go_num,cA,(hb.alloc hb.size _).grown aA (by rw[World.size_alloc];have:=hb.size;omega) (fun j hj=>by cases hj;exact Nat.le_refl _)⟩
   case measure=>simp[intOf];omega
  ·obtain rfl:k=n:=(by omega);go_wp2;go_ret;exact⟨rfl,dA.out,hb⟩
theorem qj(v:Value)(n lo hi:Nat)(f g:Nat->Int)(w:World)(h1:zR w lo hi v n f g) :
  Calls Tryz.prog 186 #[v] w fun e w'=>zG (qx n f g) e/\Below w.heap.size w w':=by
 have Hp:=zY h1;obtain⟨m1,a,c,rfl,mc,_⟩:=id h1;clear h1;unfold maxLen at m1;by_cases hn:n<=200
 ·have lA:¬(200:Int)<(n:Int):=(by omega);go_enter Tryz.func186,Tryz.ntmps186;go_wp2
  go_loopw [10] (fun i wr=>∃k:Nat,k<=n/\i = .int .i64 k/\(∀i,i<k->zE7 (f i) (g i))/\Below w.heap.size w wr) (fun i _=>n - (intOf i).toNat)
  case atStart=>exact⟨0,Nat.zero_le _,rfl,fun j hj=>absurd hj (Nat.not_lt_zero _),Below.refl _ _⟩
  case round=>
   obtain⟨k,hk,rfl,dA,hb⟩:=hrel;have aA:=zY dA;clear dA;by_cases fA:k<n
   ·have mA:(k:Int)<(n:Int):=(by omega);obtain⟨b,off,rfl,q0,q1⟩:=(Hp.out.zRJ hb).zRN fA;have gA:=zA hb (zC wr (.cells #[.int .i64 (f k),.int .i64 (g k)] 61));go_wp2_with fail;refine(zKH (f k) (g k) _).mono ?_;rintro e w1 ⟨⟨t,rfl,ht⟩,cA⟩;have eA:=zA gA cA;clear cA gA q0 q1;by_cases bA:zE7 (f k) (g k)
    ·have Hk:=zY bA;obtain rfl:t=true:=ht.2 bA;clear ht bA;go_wp2;go_roundw
     case rel=>exact⟨k+1,by omega,by go_num,zo fA aA.out Hk.out,eA⟩
     case measure=>simp[intOf];omega
    ·have Hk:=zY bA;obtain rfl:t=false:=zQ ht bA;clear ht bA;go_wp2;go_ret;exact⟨zG.no fun h=>Hk.out (h.2.1 k fA),eA⟩
   ·obtain rfl:k=n:=(by omega);go_wp2_with fail;refine(zE6 _ k lo hi f g _ (Hp.out.zRJ hb) hn aA.out).mono ?_;rintro e w1 ⟨rfl,hm,cA⟩;have eA:=zA hb cA;have Hm:=zY hm;have jA:=zGD f g k;clear hm cA;obtain⟨nA,iA⟩:=jA;have kA:=zY iA;clear iA;go_wp2_with (first
     | (at_len;refine wpList_len_own _ rfl _ 243 rfl 2 2 zOm _ wr.heap.size k _ rfl Hm.out ?_)
     | go_in)
    go_ret;refine⟨⟨_,rfl,?_⟩,eA⟩;have Ho:=kA.out;have Ha:=aA.out;simp only[beq_iff_eq,Int.natCast_inj];exact Ho.trans ⟨fun h=>⟨hn,Ha,h⟩,fun h=>h.2.2⟩
 ·have lA:(200:Int)<(n:Int):=(by omega);go_enter Tryz.func186,Tryz.ntmps186;go_wp2;go_ret;exact⟨zG.no fun h=>hn h.1,Below.refl _ _⟩
def zBq(n a b:Int):Prop:=a<=n/\n<=b
theorem zBG(n a b:Int)(w:World):Calls Tryz.prog 137 #[.int .i64 n,.int .i64 a,.int .i64 b] w fun e w'=>zG (zBq n a b) e/\w'=w:=by
 by_cases h1:a<=n
 ·by_cases h2:n<=b
  ·go_enter Tryz.func137,Tryz.ntmps137;go_wp2;go_ret;exact⟨zG.yes ⟨h1,h2⟩,rfl⟩
  ·go_enter Tryz.func137,Tryz.ntmps137;go_wp2;go_ret;exact⟨zG.no fun h=>by have:=h.2;omega,rfl⟩
 ·go_enter Tryz.func137,Tryz.ntmps137;go_wp2;go_ret;exact⟨zG.no fun h=>by have:=h.1;omega,rfl⟩
theorem yx(v:Value)(n lo hi:Nat)(f g:Nat->Int)(w:World)(h1:zR w lo hi v n f g) :
  Calls Tryz.prog 185 #[v] w fun e w'=>zG (qx n f g) e/\Below w.heap.size w w':=by
 have Hp:=zY h1;obtain⟨m1,a,c,rfl,mc,_⟩:=id h1;clear h1;unfold maxLen at m1;by_cases hn:n<=200
 ·have mA:¬(200:Int)<(n:Int):=(by omega);go_enter Tryz.func185,Tryz.ntmps185;go_wp2
  go_loopw [3] (fun i wr=>∃k:Nat,k<=n/\i = .int .i64 k/\(∀i,i<k->zE7 (f i) (g i))/\zL7 k f/\Below w.heap.size w wr) (fun i _=>n - (intOf i).toNat)
  case atStart=>exact⟨0,Nat.zero_le _,rfl,fun j hj=>absurd hj (Nat.not_lt_zero _),fun j hj=>absurd hj (Nat.not_lt_zero _),Below.refl _ _⟩
  case round=>
   obtain⟨k,hk,rfl,dA,aA,hb⟩:=hrel;have eA:=zY dA;have cA:=zY aA;clear dA aA;by_cases bA:k<n
   ·have nA:(k:Int)<(n:Int):=(by omega);obtain⟨b,off,rfl,q0,q1⟩:=(Hp.out.zRJ hb).zRN bA;by_cases hx:zBq (f k) 0 199
    ·have Hx:=zY hx;clear hx;by_cases hy:qw (g k)
     ·have Hy:=zY hy;clear hy;go_wp2_with (first
       | (go_at_call 137;refine(zBG (f k) 0 199 _).mono ?_;rintro e w1 ⟨⟨t,rfl,ht⟩,rfl⟩;obtain rfl:t=true:=ht.2 Hx.out;clear ht)
       | (go_at_call 145;refine(yZ (g k) _).mono ?_;rintro e w2 ⟨⟨t,rfl,ht⟩,rfl⟩;obtain rfl:t=true:=ht.2 Hy.out;clear ht)
       | fail)
      go_wp2
      go_loopw [4] (fun i wr=>∃j:Nat,j<=k/\i = .int .i64 j/\(∀i,i<j->f i≠f k)/\Below w.heap.size w wr) (fun i _=>k - (intOf i).toNat)
      case atStart=>exact⟨0,Nat.zero_le _,rfl,fun j hj=>absurd hj (Nat.not_lt_zero _),hb⟩
      case round=>
       obtain⟨j,hj,rfl,jA,fA⟩:=hrel;have iA:=zY jA;clear jA q0 q1 hb;by_cases gA:j<k
       ·have lA:(j:Int)<(k:Int):=(by omega);have kA:(j:Int)<(n:Int):=(by omega);obtain⟨_,_,ha,r0,_⟩:=(Hp.out.zRJ fA).zRN (show j<n by omega);simp only[Option.some.injEq,Addr.mk.injEq,and_true]at ha;obtain⟨rfl,rfl⟩:=ha;obtain⟨_,_,ha,s0,_⟩:=(Hp.out.zRJ fA).zRN bA;simp only[Option.some.injEq,Addr.mk.injEq,and_true]at ha;obtain⟨rfl,rfl⟩:=ha;by_cases he:f j=f k
        ·have He:=zY he;have e0:(f j == f k)=true:=(by simp[he]);clear he;go_wp2
         go_quiet (fail)
         go_wp2;go_ret;exact⟨zG.no fun h=>h.2.2 k bA j gA He.out,zg fA _⟩
        ·have He:=zY he;have e0:(f j == f k)=false:=(by simp[he]);clear he;go_wp2
         go_quiet (fail)
         go_wp2;go_roundw
         case rel=>exact⟨j+1,by omega,by go_num,zo gA iA.out He.out,zg fA _⟩
         case measure=>simp[intOf];omega
       ·obtain rfl:j=k:=(by omega);go_wp2;go_roundw
        case rel=>exact⟨j+1,by omega,by go_num,zo bA eA.out ⟨Hx.out.1,Hx.out.2,Hy.out.1,Hy.out.2⟩,zGk.2 ⟨cA.out,iA.out⟩,fA⟩
        case measure=>simp[intOf];omega
     ·have Hy:=zY hy;clear hy;go_wp2_with (first
       | (go_at_call 137;refine(zBG (f k) 0 199 _).mono ?_;rintro e w1 ⟨⟨t,rfl,ht⟩,rfl⟩;obtain rfl:t=true:=ht.2 Hx.out;clear ht)
       | (go_at_call 145;refine(yZ (g k) _).mono ?_;rintro e w2 ⟨⟨t,rfl,ht⟩,rfl⟩;obtain rfl:t=false:=zQ ht Hy.out;clear ht)
       | fail)
      go_wp2;go_ret;exact⟨zG.no fun h=>Hy.out ⟨(h.2.1 k bA).2.2.1,(h.2.1 k bA).2.2.2⟩,hb⟩
    ·have Hx:=zY hx;clear hx;go_wp2_with (first
      | (go_at_call 137;refine(zBG (f k) 0 199 _).mono ?_;rintro e w1 ⟨⟨t,rfl,ht⟩,rfl⟩;obtain rfl:t=false:=zQ ht Hx.out;clear ht)
      | fail)
     go_wp2;go_ret;exact⟨zG.no fun h=>Hx.out ⟨(h.2.1 k bA).1,(h.2.1 k bA).2.1⟩,hb⟩
   ·obtain rfl:k=n:=(by omega);go_wp2;go_ret;exact⟨zG.yes ⟨hn,eA.out,cA.out⟩,hb⟩
 ·have mA:(200:Int)<(n:Int):=(by omega);go_enter Tryz.func185,Tryz.ntmps185;go_wp2;go_ret;exact⟨zG.no fun h=>hn h.1,Below.refl _ _⟩
theorem zDO(v:Value)(n lo hi:Nat)(f g:Nat->Int)(x y:Int)(w:World)(h1:zR w lo hi v n f g) :
  Calls Tryz.prog 142 #[v,.agg #[.int .i64 x,.int .i64 y]] w fun e w'=>zG (PIn n f g x y) e/\Below w.heap.size w w':=by
 have Hp:=zY h1;obtain⟨m1,a,c,rfl,mc,_⟩:=id h1;unfold maxLen at m1;clear h1;have ha:=zC w (.cells #[.int .i64 x,.int .i64 y] 61);have HB:=zY (zc.zRL w (.int .i64 x) (.int .i64 y) 61);go_enter Tryz.func142,Tryz.ntmps142;go_wp2
 go_loopw [5] (fun i wr=>∃k:Nat,k<=n/\i = .int .i64 k/\¬PIn k f g x y/\zc wr w.heap.size (.int .i64 x) (.int .i64 y)/\Below w.heap.size w wr) (fun i _=>n - (intOf i).toNat)
 case atStart=>exact⟨0,Nat.zero_le _,rfl,fun ⟨j,hj,_⟩=>absurd hj (Nat.not_lt_zero _),HB.out,ha⟩
 case round=>
  obtain⟨k,hk,rfl,dA,hX,hb⟩:=hrel;have cA:=zY dA;have HX:=zY hX;clear dA hX;obtain⟨⟨x0,x1⟩,⟨x2,x3⟩⟩:=HX.out;by_cases bA:k<n
  ·have eA:(k:Int)<(n:Int):=(by omega);obtain⟨b,off,rfl,q0,q1⟩:=(Hp.out.zRJ hb).zRN bA;by_cases he:f k=x/\g k=y
   ·have H:=zY (show PIn n f g x y from⟨k,bA,he.1,he.2⟩);rw[he.1]at q0;rw[he.2]at q1;clear he;go_wp2
    go_quiet (fail)
    go_wp2;go_ret;exact⟨zG.yes H.out,zg hb _⟩
   ·have H:=zY he;have e0:(f k == x)=false\/(f k == x)=true/\(g k == y)=false:=by
     by_cases h:f k=x
     ·right;refine⟨by simp[h],?_⟩;have:g k≠y:=fun h'=>he ⟨h,h'⟩
      simp[this]
     ·left;simp[h]
    clear he;rcases e0 with e0 | ⟨e0,e1⟩
    all_goals
     go_wp2
     go_quiet (fail)
     go_wp2;go_roundw
     case rel=>
      refine⟨k+1,by omega,by go_num,?_,HX.out.zRJ (zg (Below.refl _ _) _),zg hb _⟩;rintro⟨j,hj,aA⟩;by_cases e:j=k
      ·subst e;exact H.out ⟨aA.1,aA.2⟩
      ·exact cA.out ⟨j,by omega,aA⟩
     case measure=>simp[intOf];omega
  ·obtain rfl:k=n:=(by omega);go_wp2;go_ret;exact⟨zG.no cA.out,hb⟩
theorem zGE(v v':Value)(n lo hi n' lo' hi':Nat)(f g f' g':Nat->Int)(w:World)(h1:zR w lo hi v n f g)(h2:zR w lo' hi' v' n' f' g') :
  Calls Tryz.prog 143 #[v,v'] w fun e w'=>zG (zD9 n f g n' f' g') e/\Below w.heap.size w w':=by
 have Hp:=zY h1;have kA:=zY h2;obtain⟨m1,a,c,rfl,mc,_⟩:=id h1;obtain⟨m2,a',c',rfl,oA,_⟩:=id h2;unfold maxLen at m1 m2;clear h1 h2;by_cases ho:qx n f g
 ·have Ho:=zY ho;clear ho;by_cases fA:qx n' f' g'
  ·have eA:=zY fA;clear fA;go_enter Tryz.func143,Tryz.ntmps143;go_wp2_with fail;refine(yx _ n lo hi f g _ Hp.out).mono ?_;rintro e w1 ⟨⟨t,rfl,ht⟩,aA⟩;obtain rfl:t=true:=ht.2 Ho.out;clear ht;go_wp2_with fail;refine(yx _ n' lo' hi' f' g' _ (kA.out.zRJ aA)).mono ?_;rintro e w2 ⟨⟨t,rfl,ht⟩,dA⟩;obtain rfl:t=true:=ht.2 eA.out;have gA:=zA aA dA;clear ht aA dA;by_cases jA:n=n'
   ·subst jA;have e0:((n:Int) != (n:Int))=false:=(by simp);go_wp2
    go_loopw [5] (fun i wr=>∃k:Nat,k<=n/\i = .int .i64 k/\(∀i,i<k->PIn n f' g' (f i) (g i))/\Below w.heap.size w wr) (fun i _=>n - (intOf i).toNat)
    case atStart=>exact⟨0,Nat.zero_le _,rfl,fun j hj=>absurd hj (Nat.not_lt_zero _),gA⟩
    case round=>
     obtain⟨k,hk,rfl,bA,hb⟩:=hrel;have cA:=zY bA;clear bA;by_cases iA:k<n
     ·have nA:(k:Int)<(n:Int):=(by omega);obtain⟨b,off,rfl,q0,q1⟩:=(Hp.out.zRJ hb).zRN iA;go_wp2_with fail;refine(zDO _ n lo' hi' f' g' (f k) (g k) _ (kA.out.zRJ hb)).mono ?_;rintro e w3 ⟨⟨t,rfl,ht⟩,mA⟩;have lA:=zA hb mA;clear mA;by_cases hi':PIn n f' g' (f k) (g k)
      ·have Hi:=zY hi';obtain rfl:t=true:=ht.2 hi';clear ht hi';go_wp2;go_roundw
       case rel=>exact⟨k+1,by omega,by go_num,zo iA cA.out Hi.out,lA⟩
       case measure=>simp[intOf];omega
      ·have Hi:=zY hi';obtain rfl:t=false:=zQ ht hi';clear ht hi';go_wp2;go_ret;exact⟨zG.no fun h=>Hi.out (h.2.2.2 k iA),lA⟩
     ·obtain rfl:k=n:=(by omega);go_wp2;go_ret;exact⟨zG.yes ⟨Ho.out,eA.out,rfl,cA.out⟩,hb⟩
   ·have e0:((n:Int) != (n':Int))=true:=(by simp;omega);have Hn:=zY jA;clear jA;go_wp2;go_ret;exact⟨zG.no fun h=>Hn.out h.2.2.1,gA⟩
  ·have eA:=zY fA;clear fA;go_enter Tryz.func143,Tryz.ntmps143;go_wp2_with fail;refine(yx _ n lo hi f g _ Hp.out).mono ?_;rintro e w1 ⟨⟨t,rfl,ht⟩,aA⟩;obtain rfl:t=true:=ht.2 Ho.out;clear ht;go_wp2_with fail;refine(yx _ n' lo' hi' f' g' _ (kA.out.zRJ aA)).mono ?_;rintro e w2 ⟨⟨t,rfl,ht⟩,dA⟩;obtain rfl:t=false:=zQ ht eA.out;have gA:=zA aA dA;clear ht aA dA;go_wp2;go_ret;exact⟨zG.no fun h=>eA.out h.2.1,gA⟩
 ·have Ho:=zY ho;clear ho;go_enter Tryz.func143,Tryz.ntmps143;go_wp2_with fail;refine(yx _ n lo hi f g _ Hp.out).mono ?_;rintro e w1 ⟨⟨t,rfl,ht⟩,aA⟩;obtain rfl:t=false:=zQ ht Ho.out;clear ht;go_wp2;go_ret;exact⟨zG.no fun h=>Ho.out h.1,aA⟩
theorem s1{α : Type}(l:List α)(i:Nat)(a:α):l.toArray.setIfInBounds i a=(l.set i a).toArray:=List.setIfInBounds_toArray ..
theorem s2{α : Type}(x:α)(l:List α)(a:α):(x :: l).set 0 a=a :: l:=rfl
theorem s3{α : Type}(x:α)(l:List α)(i:Nat)(a:α):(x :: l).set (i+1) a=x :: l.set i a:=rfl
def zMR:List Oper->Nat->Option Oper
 | [],_=>none
 | o :: _,0=>some o
 | _ :: l,n+1=>zMR l n
theorem zJO:∀(l:List Oper) (i:Nat),l[i]?=zMR l i
 | [],_=>rfl
 | _ :: _,0=>rfl
 | _ :: l,n+1=>by simpa[zMR]using zJO l n
theorem zAW{aA:Array Oper}{i:Nat}{o:Oper}(h:zMR aA.toList i=some o):aA[i]?=some o:=by
 rw[<-h,<-zJO,Array.getElem?_toList]
section
variable {P : Program} {md : Region.Mode} {ops : Array Oper} {Q : Exit -> Act -> World -> Prop} {S : World -> Prop}
theorem tk(i:Nat){o:Oper}{v:Value}{bA:Nat}{aA l':Array Bool}{a a':Act}{w:World}(hi:zMR ops.toList i=some o:=by exact rfl)
  (hb:(Region.noSelect ops && (Region.free md ops aA i && (Region.ready md ops aA).contains i))=true:=by kernel_rfl)
  (hw:Region.wanted o (yielded ops a.tmps)=true:=by exact rfl) (hS:S w:=by assumption)
  (hy:∀w,S w->(execOp a.eval o).run P w = .ok (.value v) w:=by(intro w cA;(try dsimp only at cA);go_simp;try with_reducible rfl))
  (hl:aA.setIfInBounds i true=l':=by((try simp only[s1,s2,s3]);exact rfl))
  (ha:a.put o.dst v=a':=by((try simp only[Act.put,s1,s2,s3]);exact rfl))
  (hQ:∀c a w,Q (.panic c) (a.put o.dst v) w->Q (.panic c) a w:=by exact fun _ _ _ h=>h)
  (h:wpAnyH P md ops Q S bA l' a' w):wpAnyH P md ops Q S (bA+1) aA a w:=by
 simp only[Bool.and_eq_true]at hb;subst hl ha;exact wpAnyH_take (zAW hi) hb.1 hb.2.1 hb.2.2 hQ (Or.inl ⟨hw,hy⟩) hS h
theorem ts(i:Nat){o:Oper}{bA:Nat}{aA l':Array Bool}{a a':Act}{w:World}(hi:zMR ops.toList i=some o:=by exact rfl)
  (hb:(Region.noSelect ops && (Region.free md ops aA i && (Region.ready md ops aA).contains i))=true:=by kernel_rfl)
  (hw:Region.wanted o (yielded ops a.tmps)=false:=by exact rfl) (hS:S w:=by assumption)
  (hl:aA.setIfInBounds i true=l':=by((try simp only[s1,s2,s3]);exact rfl))
  (ha:a.put o.dst undef=a':=by((try simp only[Act.put,s1,s2,s3]);exact rfl))
  (hQ:∀c a w,Q (.panic c) (a.put o.dst undef) w->Q (.panic c) a w:=by exact fun _ _ _ h=>h)
  (h:wpAnyH P md ops Q S bA l' a' w):wpAnyH P md ops Q S (bA+1) aA a w:=by
 simp only[Bool.and_eq_true]at hb;subst hl ha;exact wpAnyH_take (zAW hi) hb.1 hb.2.1 hb.2.2 hQ (Or.inr ⟨hw,rfl⟩) hS h
theorem rd(rs:List Nat){bA:Nat}{aA:Array Bool}{a:Act}{w:World}(h:AllReadyH P md ops Q S bA aA a w rs)
  (hr:Region.ready md ops aA=rs:=by kernel_rfl) (cA:rs≠[]:=by simp):wpAnyH P md ops Q S (bA+1) aA a w:=wpAnyH_ready hr cA h
theorem rc{bA:Nat}{aA:Array Bool}{a:Act}{w:World}{i:Nat}{o:Oper}{rs:List Nat}
  (h:∀K':Act->World->Prop,Shut (∀a w,S w->(S w->wpAnyH P md ops Q S bA (aA.setIfInBounds i true) a w)->K' a w)->if Region.wanted o (yielded ops a.tmps)=true then Oper.wp P o a w K' Q else K' (a.put o.dst undef) w)
  (hs:AllReadyH P md ops Q S bA aA a w rs) (ho:zMR ops.toList i=some o:=by exact rfl):AllReadyH P md ops Q S bA aA a w (i :: rs):=AllReadyH.cons (zAW ho) h hs
end
end Go.Proofs.YtmgeglgboadfiaaGreatDoor
