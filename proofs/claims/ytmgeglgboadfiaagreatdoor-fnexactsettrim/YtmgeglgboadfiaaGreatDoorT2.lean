/- A node's Kids as an array of eight pointers: what impl.kidsOf, impl.kidFound and impl.kidsThere answer. -/
import Derived.Test.YtmgeglgboadfiaaGreatDoorT1
import Derived.Laws.CopyOwn
import Derived.Deep.RegionLaw
import Derived.Deep.WholeRow
import Derived.RegionTactic
import Derived.ChangeAlike
import Derived.BigRegion
import Derived.Maps.OwnSet
import Derived.Deep.RegionHeld
set_option linter.unusedVariables false
set_option maxRecDepth 20000
set_option maxHeartbeats 4000000
namespace Go.Proofs.YtmgeglgboadfiaaGreatDoor
open Go.RowKit
theorem zER{P:Program}(w:World)(dT sT ty elem:TypeId)(size g o bA dA:Nat)(a:Addr)(aA fA:Nat)(cA:Array Value)(t:TypeId)(cs:List Value)
  (hu:P.underlying dT=some (.slice elem)) (hs:(P.info? elem).map (·.size)=some size)
  (hg:w.heap[g]?=some (.cells cA t (0,0))) (hn:cs.length=Nat.min aA bA*size)
  (gA:∀j v,cs[j]?=some v->w.cell? (a.add j)=some v) (eA:o+cs.length<=cA.size) (h1:∀v∈cs,v.oneCell'=true) :
  (Builtin.copy_ #[dT,sT] ty #[.slice (some ⟨g,o,none⟩) bA dA,.slice (some a) aA fA]).run P w =
   .ok (goInt (Nat.min aA bA)) (w.setRow g (cA.toList.take o ++ cs ++ cA.toList.drop (o+cs.length)).toArray):=by
 have hl:=run_loadCells_list (P:=P) w a cs gA;have iA:=run_storeCells_at P g o t cs 0 cA w hg (by simpa using eA) h1;cases hq:P.info? elem with
 | none=>simp[hq]at hs
 | some i=>
  have hi:i.size=size:=(by simpa[hq]using hs);have e:Nat.min aA bA*i.size=cs.length:=(by rw[hi,hn]);simp[Builtin.copy_,run_underlying hu,Builtin.lenOf,Builtin.firstCells,sizeOf,typeInfo,hq,e,hl,iA]
theorem zIf{P:Program}(w:World)(dT sT ty elem:TypeId)(size:Nat)(d a:Option Addr)(aA bA cA:Nat)
  (hu:P.underlying dT=some (.slice elem)) (hs:(P.info? elem).map (·.size)=some size) :
  (Builtin.copy_ #[dT,sT] ty #[.slice d aA bA,.slice a 0 cA]).run P w = .ok (goInt 0) w:=by
 cases hq:P.info? elem with
 | none=>simp[hq]at hs
 | some i=>
  cases a with
  | none=>cases d<;>simp[Builtin.copy_,run_underlying hu,Builtin.lenOf,Builtin.firstCells,sizeOf,typeInfo,hq,storeCells]
  | some a=>cases d<;>simp[Builtin.copy_,run_underlying hu,Builtin.lenOf,Builtin.firstCells,sizeOf,typeInfo,hq,storeCells,loadCells,loadCellsFrom]
def zk(s:zL)(j:Nat):Int:=if j / 2<s.kn then(if j % 2=0 then s.ks (j / 2)else s.kb (j / 2))else 0
def zp(f:Nat->Int):Array Value:=((List.range 16).map fun j=>Value.int .i64 (f j)).toArray
def qE(s:zL):Array Value:=zp (zk s)
theorem qB(f:Nat->Int):(zp f).size=16:=by simp[zp]
theorem yQ(f:Nat->Int){j:Nat}(h:j<16):(zp f)[j]?=some (.int .i64 (f j)):=by simp[zp,h]
theorem zAs(f:Nat->Int):(zp f).all (·.oneCell')=true:=by
 unfold zp;rw[Array.all_eq_true_iff_forall_mem];intro v hv;simp at hv;obtain⟨j,_,rfl⟩:=hv;rfl
theorem zJc{f g:Nat->Int}(h:∀j,j<16->f j=g j):zp f=zp g:=by
 unfold zp;congr 1;apply List.map_congr_left;intro j hj;rw[h j (by simpa using hj)]
theorem zBp:(Tryz.prog.info? 155).map (·.size)=some 16:=by kernel_rfl
theorem zEC:(Tryz.prog.info? 61).map (·.size)=some 2:=by kernel_rfl
theorem zHH:Tryz.prog.underlying 155=some (.array 8 61):=by kernel_rfl
theorem zGv(w:World)(o1 o2 o3:Obj):(((w.alloc o1).alloc o2).alloc o3).heap[w.heap.size+1]?=some o2/\(((w.alloc o1).alloc o2).alloc o3).heap[w.heap.size+1+1]?=some o3/\w.heap.size+1+1<(((w.alloc o1).alloc o2).alloc o3).heap.size:=by
 refine⟨?_,?_,by simp⟩
 ·rw[Below.heap_alloc _ _ _ (by simp)];have:=heap_alloc_last (w.alloc o1) o2;rw[World.size_alloc]at this;exact this
 ·have:=heap_alloc_last ((w.alloc o1).alloc o2) o3;rw[World.size_alloc,World.size_alloc]at this;exact this
theorem zF.setRow(w:World)(g:Nat)(cs:Array Value):zF (fun k=>k=g) w (w.setRow g cs):=
 ⟨rfl,rfl,rfl,by simp[World.setRow],fun k _ hs=>setRow_other w g k cs hs⟩
theorem zHp{dA:Array Oper}{o:Oper}{a:Act}{w:World}{K:Act->World->Prop}{Q:Exit->Act->World->Prop}{E:Prop}(fA:o.guard=none)(d s:Operand)
  (ho:o.op = .call {callee:=.builtin .copy,args:=#[d,s],argTypes:=#[62,62]})
  (g:Nat) (ka:Option Addr) (kc:Nat) (sl:zL) (hd:a.eval d = .slice (some ⟨g,0,none⟩) 8 8) (hs:a.eval s = .slice ka sl.kn kc)
  (hg:w.heap[g]?=some (.cells (zp fun _=>0) 155 (0,0))) (hk:sl.kn=0\/(sl.kn=8/\∃b off,ka=some ⟨b,off,none⟩/\∀i,i<sl.kn->w.cell? ⟨b,off+i*2,none⟩=some (.int .i64 (sl.ks i))/\w.cell? ⟨b,off+i*2+1,none⟩=some (.int .i64 (sl.kb i))))
  (h:∀w' v,Hid (w'.heap[g]?=some (.cells (qE sl) 155 (0,0)))->zF (fun k=>k=g) w w'->K (a.put o.dst v) w') :
  if Region.wanted o (yielded dA a.tmps)=true then Oper.wp Tryz.prog o a w K Q else E:=by
 have hw:Region.wanted o (yielded dA a.tmps)=true:=by simp[Region.wanted,fA]
 rw[if_pos hw];have hu:Tryz.prog.underlying 62=some (.slice 61):=by kernel_rfl
 rcases hk with hk | ⟨hk,b,off,rfl,hc⟩
 ·rw[hk]at hs;have aA:=zIf (P:=Tryz.prog) w 62 62 o.type 61 2 (some ⟨g,0,none⟩) ka 8 8 kc hu zEC;unfold Oper.wp;simp[execOp,ho,resolve,invoke,builtin,hd,hs,aA,Result.andThen];refine h _ _ ?_ (zF.refl _ _);show _=_;rw[hg];have:qE sl=zp (fun _=>0):=zJc fun j _=>by unfold zk;rw[if_neg (by omega)]
  rw[this]
 ·rw[hk]at hs;have aA:=zER (P:=Tryz.prog) w 62 62 o.type 61 2 g 0 8 8 ⟨b,off,none⟩ 8 kc (zp fun _=>0) 155 (qE sl).toList hu zEC hg (by simp[qE,zp]) (fun j v hj=>by
    have bA:j<16:=by
     have:=(List.getElem?_eq_some_iff.1 hj).1;simpa[qE,qB]using this
    have e:(qE sl).toList[j]?=some (.int .i64 (zk sl j)):=(by rw[Array.getElem?_toList];exact yQ (zk sl) bA);rw[e]at hj;simp only[Option.some.injEq]at hj;subst hj;have cA:(⟨b,off,none⟩:Addr).add j=⟨b,off+j,none⟩:=(by unfold Addr.add;split<;>simp_all);rw[cA];unfold zk;rw[if_pos (by omega)];have eA:=hc (j / 2) (by omega);split
    ·rw[show off+j=off+j / 2*2 by omega];exact eA.1
    ·rw[show off+j=off+j / 2*2+1 by omega];exact eA.2) (by simp[qE,zp]) (fun v hv=>(Array.all_eq_true_iff_forall_mem.1 (zAs _)) v (by simpa[qE]using hv))
  unfold Oper.wp;simp[execOp,ho,resolve,invoke,builtin,hd,hs,aA,Result.andThen];refine h _ _ ?_ (zF.setRow _ _ _);show _=_;rw[setRow_heap w g _ _ 155 (0,0) hg];have e0:((zp fun _=>0).toList.drop 16) = []:=List.drop_eq_nil_of_le (by simp[zp]);simp[qE,qB,e0]
theorem zDS(v0 v1 v2:Value)(lo hi:Nat)(s:zL)(w:World)(h1:qI w lo hi v0 v1 v2 s)(hk:s.kn=0\/s.kn=8) :
  Calls Tryz.prog 162 #[.agg #[v0,v1,v2]] w fun e w'=>e = .returned (.agg (qE s))/\Below w.heap.size w w':=by
 obtain⟨rfl,⟨m1,a,c,rfl,mc,g1⟩,rfl,m2⟩:=h1;unfold maxLen at m1 m2;have G1:Hid (0<s.kn->∃b off,a=some ⟨b,off,none⟩/\lo<=b/\b<hi/\∀i,i<s.kn->w.cell? ⟨b,off+i*2,none⟩=some (.int .i64 (s.ks i))/\w.cell? ⟨b,off+i*2+1,none⟩=some (.int .i64 (s.kb i))):=g1;have Hk:Hid (s.kn=0\/s.kn=8):=hk;clear g1 hk;go_enter Tryz.func162,Tryz.ntmps162;go_wp2_with fail;obtain⟨W,hW⟩:∃W:World,W=((w.alloc (.cells #[.int .i64 s.zRU,.slice a s.kn c,.string s.data] 127)).alloc (.cells #[Value.int .i64 0,Value.int .i64 0,Value.int .i64 0,Value.int .i64 0,Value.int .i64 0,Value.int .i64 0,Value.int .i64 0,Value.int .i64 0,Value.int .i64 0,Value.int .i64 0,Value.int .i64 0,Value.int .i64 0,Value.int .i64 0,Value.int .i64 0,Value.int .i64 0,Value.int .i64 0] 155)).alloc (.cells #[Value.int .i64 0,Value.int .i64 0,Value.int .i64 0,Value.int .i64 0,Value.int .i64 0,Value.int .i64 0,Value.int .i64 0,Value.int .i64 0,Value.int .i64 0,Value.int .i64 0,Value.int .i64 0,Value.int .i64 0,Value.int .i64 0,Value.int .i64 0,Value.int .i64 0,Value.int .i64 0] 155):=⟨_,rfl⟩;have gA:(#[Value.int .i64 0,Value.int .i64 0,Value.int .i64 0,Value.int .i64 0,Value.int .i64 0,Value.int .i64 0,Value.int .i64 0,Value.int .i64 0,Value.int .i64 0,Value.int .i64 0,Value.int .i64 0,Value.int .i64 0,Value.int .i64 0,Value.int .i64 0,Value.int .i64 0,Value.int .i64 0]:Array Value)=zp (fun _=>0):=rfl;have hb:Below w.heap.size w W:=by rw[hW];exact zA (zA (zC _ _) (zC _ _)) (zC _ _)
 have Hx:Hid (yT W w.heap.size (.int .i64 s.zRU) (.slice a s.kn c) (.string s.data)):=by rw[hW];exact((yT.zRL w _ _ _ _).zRJ (zC _ _)).zRJ (zC _ _)
 have bA:=zGv w (.cells #[.int .i64 s.zRU,.slice a s.kn c,.string s.data] 127) (.cells #[Value.int .i64 0,Value.int .i64 0,Value.int .i64 0,Value.int .i64 0,Value.int .i64 0,Value.int .i64 0,Value.int .i64 0,Value.int .i64 0,Value.int .i64 0,Value.int .i64 0,Value.int .i64 0,Value.int .i64 0,Value.int .i64 0,Value.int .i64 0,Value.int .i64 0,Value.int .i64 0] 155) (.cells #[Value.int .i64 0,Value.int .i64 0,Value.int .i64 0,Value.int .i64 0,Value.int .i64 0,Value.int .i64 0,Value.int .i64 0,Value.int .i64 0,Value.int .i64 0,Value.int .i64 0,Value.int .i64 0,Value.int .i64 0,Value.int .i64 0,Value.int .i64 0,Value.int .i64 0,Value.int .i64 0] 155);rw[<-hW]at bA;have HR:Hid (W.heap[w.heap.size+1]?=some (.cells (zp fun _=>0) 155 (0,0))):=bA.1;have HG:Hid (W.heap[w.heap.size+1+1]?=some (.cells (zp fun _=>0) 155 (0,0))):=bA.2.1;have kA:w.heap.size+1+1<W.heap.size:=bA.2.2;clear bA;have HC:Hid (s.kn=0\/(s.kn=8/\∃b off,a=some ⟨b,off,none⟩/\∀i,i<s.kn->W.cell? ⟨b,off+i*2,none⟩=some (.int .i64 (s.ks i))/\W.cell? ⟨b,off+i*2+1,none⟩=some (.int .i64 (s.kb i)))):=by
  rcases Hk.out with h | h
  ·exact Or.inl h
  ·obtain⟨b,off,ha,_,_,k1⟩:=G1.out (by omega);exact Or.inr ⟨h,b,off,ha,fun i hi=>⟨(hb.cell (zD (k1 i hi).1)).trans (k1 i hi).1,(hb.cell (zD (k1 i hi).2)).trans (k1 i hi).2⟩⟩
 rw[<-hW];clear hW gA;obtain⟨⟨x0,x1⟩,⟨x2,x3⟩,⟨x4,x5⟩⟩:=Hx.out
 go_region_law (refine zHp rfl (.tmp 4) (.tmp 6) rfl (w.heap.size+1+1) a c s (by simp[Act.eval]) (by simp[Act.eval]) HG.out HC.out ?_;intro w1 cv jA dA)
 have fA:w1.heap[w.heap.size+1]?=some (.cells (zp fun _=>0) 155 (0,0)):=(dA.block _ (by show _<W.heap.size;omega) (by omega)).trans HR.out;have eA:Hid (w1.heap[w.heap.size+1]?=some (.cells (zp fun _=>0) 155 (0,0))):=fA;have iA:Below w.heap.size w w1:=hb.drew.trans (dA.zRJ (by show _<=W.heap.size;omega) (by intro k hk;omega));clear fA dA x0 x1 x2 x3 x4 x5;have cA:(Tryz.prog.info? 155).map (·.size)=some (qE s).size:=by rw[qE,qB];exact zBp
 have aA:Hid ((Tryz.prog.info? 155).map (·.size)=some (qE s).size):=cA;clear cA;go_wp2_with (first
  | (refine wpList_load_row rfl 155 (.tmp 3) rfl (w.heap.size+1+1) rfl 155 (qE s) (0,0) _ jA.out zHH rfl aA.out ?_)
  | (refine wpList_store_row rfl 155 (.tmp 2) (.tmp 8) rfl (w.heap.size+1) (qE s) rfl rfl 155 (zp fun _=>0) eA.out aA.out (by rw[qE,qB,qB]) (zAs _) ?_))
 refine bodyPost_ret (v:=.agg (qE s)) (results_cell_row (P:=Tryz.prog) (ty:=155) Tryz.results162 _ _ (w.heap.size+1) 155 (qE s) (0,0) _ rfl (setRow_heap _ _ _ _ _ _ eA.out) zHH rfl aA.out) rfl ⟨rfl,?_⟩;exact below_setRow iA (by omega) _
def zAW(n:Nat)(f:Nat->zL)(b ks kb rs rb:Int):Prop:=
 ∃ps pb,zBP n f ks ps pb/\(((zCC ks kb 0 0\/b<pb)/\rs=0/\rb=0)\/(¬(zCC ks kb 0 0\/b<pb)/\rs=ps/\rb=pb))
theorem zJ2(v:Value)(n lo hi:Nat)(f:Nat->zL)(ks kb b:Int)(w:World)(h1:qA w lo hi v n f) :
  Calls Tryz.prog 221 #[v,.agg #[.int .i64 ks,.int .i64 kb],.int .i64 b] w fun e w'=>(∃rs rb,e = .returned (.agg #[.int .i64 rs,.int .i64 rb])/\zAW n f b ks kb rs rb)/\Below w.heap.size w w':=by
 have Hi:Hid (qA w lo hi v n f):=h1;obtain⟨m1,a,c,rfl,mc,g1⟩:=h1;clear g1;have eA:Hid (Below w.heap.size w ((w.alloc (.cells #[.int .i64 ks,.int .i64 kb] 61)).alloc (.cells #[.int .i64 0,.int .i64 0] 61))):=zA (zC _ _) (zC _ _);go_enter Tryz.func221,Tryz.ntmps221;go_wp2_with fail;refine(zEj _ n lo hi f _ _ (Hi.out.zRJ eA.out)).mono ?_;rintro e w1 ⟨⟨ps,pb,rfl,hp⟩,bA⟩;have Hp:Hid (zBP n f ks ps pb):=hp;have HX:Hid (zc w1 w.heap.size (.int .i64 ks) (.int .i64 kb)):=((zc.zRL w _ _ _).zRJ (zC _ _)).zRJ bA;have HR:Hid (zc w1 (w.heap.size+1) (.int .i64 0) (.int .i64 0)):=by
  have:=(zc.zRL (w.alloc (.cells #[.int .i64 ks,.int .i64 kb] 61)) (.int .i64 0) (.int .i64 0) 61).zRJ bA;rw[World.size_alloc]at this;exact this
 have gA:=zA eA.out bA;have hz:w.heap.size<w1.heap.size:=HX.out.1.lt;have iA:w.heap.size+1<w1.heap.size:=HR.out.1.lt;clear hp bA;obtain⟨⟨x0,x1⟩,⟨x2,x3⟩⟩:=HX.out;obtain⟨⟨y0,y1⟩,⟨y2,y3⟩⟩:=HR.out;have HY:=fun u0 u1=>(HR.out.put u0 u1).zRJ (zC _ (.cells #[.int .i64 ps,.int .i64 pb] 61))
 have cA:Hid (∀u0 u1,zc (((w1.setCell ⟨w.heap.size+1,0,none⟩ u0).setCell ⟨w.heap.size+1,1,none⟩ u1).alloc (.cells #[.int .i64 ps,.int .i64 pb] 61)) (w.heap.size+1) u0 u1):=HY;clear HY;have dA:Hid (∀u0 u1,Below w.heap.size w (((w1.setCell ⟨w.heap.size+1,0,none⟩ u0).setCell ⟨w.heap.size+1,1,none⟩ u1).alloc (.cells #[.int .i64 ps,.int .i64 pb] 61))):=fun u0 u1=>((gA.setCell (by show _<=w.heap.size+1;omega) _).setCell (by show _<=w.heap.size+1;omega) _).alloc (by simp;omega) _
 by_cases aA:zCC ks kb 0 0
 ·obtain⟨rfl,rfl⟩:=aA;have HK:Hid (zAW n f b 0 0 0 0):=⟨ps,pb,Hp.out,Or.inl ⟨Or.inl ⟨rfl,rfl⟩,rfl,rfl⟩⟩;go_wp2;have hy:=cA.out (.int .i64 0) (.int .i64 0);refine bodyPost_ret (v:=.agg #[.int .i64 0,.int .i64 0]) (by simp[results,Tryz.results221,go_sem,hy.1.1,hy.2.1]) rfl ⟨⟨_,_,rfl,HK.out⟩,dA.out _ _⟩
 ·have HN:Hid (¬zCC ks kb 0 0):=aA;have e0:(ks == 0)=false\/(ks == 0)=true/\(kb == 0)=false:=by
   by_cases h:ks=0
   ·right;refine⟨by simp[h],?_⟩;have:kb≠0:=fun h'=>aA ⟨h,h'⟩
    simp[this]
   ·left;simp[h]
  clear aA;by_cases fA:b<pb
  ·have HK:Hid (zAW n f b ks kb 0 0):=⟨ps,pb,Hp.out,Or.inl ⟨Or.inr fA,rfl,rfl⟩⟩;have hy:=cA.out (.int .i64 0) (.int .i64 0);have Hy:Hid (zc (((w1.setCell ⟨w.heap.size+1,0,none⟩ (.int .i64 0)).setCell ⟨w.heap.size+1,1,none⟩ (.int .i64 0)).alloc (.cells #[.int .i64 ps,.int .i64 pb] 61)) (w.heap.size+1) (.int .i64 0) (.int .i64 0)):=hy;clear hy;rcases e0 with e0 | ⟨e0,e1⟩
   all_goals
    go_wp2;have hy:=Hy.out;refine bodyPost_ret (v:=.agg #[.int .i64 0,.int .i64 0]) (by simp[results,Tryz.results221,go_sem,hy.1.1,hy.2.1]) rfl ⟨⟨_,_,rfl,HK.out⟩,dA.out _ _⟩
  ·have HK:Hid (zAW n f b ks kb ps pb):=⟨ps,pb,Hp.out,Or.inr ⟨fun h=>by rcases h with h | h;exact HN.out h;exact fA h,rfl,rfl⟩⟩;rcases e0 with e0 | ⟨e0,e1⟩
   all_goals
    go_wp2;have hy:=cA.out (.int .i64 ps) (.int .i64 pb);refine bodyPost_ret (v:=.agg #[.int .i64 ps,.int .i64 pb]) (by simp[results,Tryz.results221,go_sem,hy.1.1,hy.2.1]) rfl ⟨⟨_,_,rfl,HK.out⟩,dA.out _ _⟩
def zAH(w:World)(v:Value)(n:Nat)(f:Nat->ByteArray):Prop:=
 n<=1000/\∃a c,v = .slice a n c/\(∀i,i<n->(f i).size<=maxLen)/\(0<n->∃b off,a=some ⟨b,off,none⟩/\∀i,i<n->w.cell? ⟨b,off+i,none⟩=some (.string (f i)))
theorem zAH.zRJ{w w':World}{v:Value}{n:Nat}{f:Nat->ByteArray}(h:zAH w v n f)(t:Below w.heap.size w w'):zAH w' v n f:=by
 obtain⟨m,a,c,hv,hs,hx⟩:=h;refine⟨m,a,c,hv,hs,fun h0=>?_⟩;obtain⟨b,off,ha,hc⟩:=hx h0;exact⟨b,off,ha,fun i hi=>(t.cell (zD (hc i hi))).trans (hc i hi)⟩
theorem zAH.cells{w:World}{a:Option Addr}{c n:Nat}{f:Nat->ByteArray}(h:zAH w (.slice a n c) n f){i:Nat}(hi:i<n):∃b off,a=some ⟨b,off,none⟩/\w.cell? ⟨b,off+i,none⟩=some (.string (f i)):=by
 obtain⟨m,a0,c0,hv,hs,hx⟩:=h;simp only[Value.slice.injEq,true_and]at hv;obtain⟨rfl,rfl⟩:=hv;obtain⟨b,off,ha,hc⟩:=hx (by omega);exact⟨b,off,ha,hc i hi⟩
theorem zON(s:ByteArray)(w:World)(hs:s.size<=maxLen):Calls Tryz.prog 164 #[.string s] w fun e w'=>zG (8000<s.size) e/\Below w.heap.size w w':=by
 unfold maxLen at hs;by_cases h:8000<s.size
 ·have h':(8000:Int)<(s.size:Int):=(by omega);have H:=zd h;clear h;go_enter Tryz.func164,Tryz.ntmps164;go_wp2;go_ret;exact⟨zG.yes H.out,Below.refl _ _⟩
 ·have h':¬(8000:Int)<(s.size:Int):=(by omega);have H:=zd h;clear h;go_enter Tryz.func164,Tryz.ntmps164;go_wp2;go_ret;exact⟨zG.no H.out,Below.refl _ _⟩
theorem zPE(s:ByteArray)(w:World)(hs:s.size<=maxLen):Calls Tryz.prog 166 #[.string s] w fun e w'=>zG (¬yM s) e/\Below w.heap.size w w':=by
 go_enter Tryz.func166,Tryz.ntmps166;go_wp2_with fail;refine(zDn s w hs).mono ?_;rintro e w1 ⟨⟨t,rfl,ht⟩,rfl⟩;by_cases hf:yM s
 ·obtain rfl:t=true:=ht.2 hf;have HF:=zd hf;clear ht hf;go_wp2;go_ret;exact⟨zG.no (fun h=>h HF.out),Below.refl _ _⟩
 ·obtain rfl:t=false:=zQ ht hf;have HF:=zd hf;clear ht hf;go_wp2;go_ret;exact⟨zG.yes HF.out,Below.refl _ _⟩
theorem zLm(v:Value)(n:Nat)(f:Nat->ByteArray)(w:World)(h:zAH w v n f) :
  Calls Tryz.prog 201 #[v,.func (.func 164) #[] #[]] w fun e w'=>((∃i:Nat,i<n/\8000<(f i).size/\e = .returned (.int .i64 (i:Int)))\/((∀j,j<n->¬8000<(f j).size)/\e = .returned (.int .i64 (-1))))/\Below w.heap.size w w':=by
 have Hp:=zd h;obtain⟨m1,a,c,rfl,hs,-⟩:=h;have Hs:=zd hs;clear hs;go_enter Tryz.func201,Tryz.ntmps201;go_wp2
 go_loopw [8] (fun i wr=>∃k:Nat,k<=n/\i = .int .i64 k/\(∀j,j<k->¬8000<(f j).size)/\Below w.heap.size w wr) (fun i _=>n - (intOf i).toNat)
 case atStart=>exact⟨0,Nat.zero_le _,rfl,fun j hj=>absurd hj (Nat.not_lt_zero _),Below.refl _ _⟩
 case round=>
  obtain⟨k,hk,rfl,aA,hb⟩:=hrel;have bA:=zd aA;clear aA;by_cases cA:k<n
  ·have gA:(k:Int)<(n:Int):=(by omega);obtain⟨b,off,rfl,q0⟩:=(Hp.out.zRJ hb).cells cA;have fA:=Hs.out k cA;go_wp2_with fail;refine(zON (f k) _ fA).mono ?_;rintro e w1 ⟨⟨t,rfl,ht⟩,eA⟩;have dA:=zA hb eA;clear eA q0;by_cases hf:8000<(f k).size
   ·obtain rfl:t=true:=ht.2 hf;have HF:=zd hf;clear ht hf;go_wp2;go_ret;exact⟨Or.inl ⟨k,cA,HF.out,rfl⟩,dA⟩
   ·obtain rfl:t=false:=zQ ht hf;have HF:=zd hf;clear ht hf;go_wp2;go_roundw
    case rel=>
     refine⟨k+1,by omega,by go_num,fun j hj=>?_,dA⟩;by_cases e:j=k
     ·subst e;exact HF.out
     ·exact bA.out j (by omega)
    case measure=>simp[intOf];omega
  ·obtain rfl:k=n:=(by omega);go_wp2;go_ret;exact⟨Or.inr ⟨bA.out,rfl⟩,hb⟩
theorem zOY(v:Value)(n:Nat)(f:Nat->ByteArray)(w:World)(h:zAH w v n f) :
  Calls Tryz.prog 163 #[v,.func (.func 164) #[] #[]] w fun e w'=>zG (∃i,i<n/\8000<(f i).size) e/\Below w.heap.size w w':=by
 have Hp:=zd h;obtain⟨m1,a,c,rfl,hs,-⟩:=h;go_enter Tryz.func163,Tryz.ntmps163;go_wp2_with fail;refine(zLm _ n f w Hp.out).mono ?_;rintro e w1 ⟨hr,bA⟩;rcases hr with⟨i,hi,hP,rfl⟩ | ⟨aA,rfl⟩
 ·have HP:=zd (show ∃i,i<n/\8000<(f i).size from⟨i,hi,hP⟩);have h0:(0:Int)<=(i:Int):=(by omega);clear hP;go_wp2;go_ret;exact⟨zG.yes HP.out,bA⟩
 ·have HP:=zd aA;clear aA;go_wp2;go_ret;exact⟨zG.no fun ⟨i,hi,hq⟩=>HP.out i hi hq,bA⟩
theorem zLy(v:Value)(n:Nat)(f:Nat->ByteArray)(w:World)(h:zAH w v n f) :
  Calls Tryz.prog 201 #[v,.func (.func 166) #[] #[]] w fun e w'=>((∃i:Nat,i<n/\¬yM (f i)/\e = .returned (.int .i64 (i:Int)))\/((∀j,j<n->¬¬yM (f j))/\e = .returned (.int .i64 (-1))))/\Below w.heap.size w w':=by
 have Hp:=zd h;obtain⟨m1,a,c,rfl,hs,-⟩:=h;have Hs:=zd hs;clear hs;go_enter Tryz.func201,Tryz.ntmps201;go_wp2
 go_loopw [8] (fun i wr=>∃k:Nat,k<=n/\i = .int .i64 k/\(∀j,j<k->¬¬yM (f j))/\Below w.heap.size w wr) (fun i _=>n - (intOf i).toNat)
 case atStart=>exact⟨0,Nat.zero_le _,rfl,fun j hj=>absurd hj (Nat.not_lt_zero _),Below.refl _ _⟩
 case round=>
  obtain⟨k,hk,rfl,aA,hb⟩:=hrel;have bA:=zd aA;clear aA;by_cases cA:k<n
  ·have gA:(k:Int)<(n:Int):=(by omega);obtain⟨b,off,rfl,q0⟩:=(Hp.out.zRJ hb).cells cA;have fA:=Hs.out k cA;go_wp2_with fail;refine(zPE (f k) _ fA).mono ?_;rintro e w1 ⟨⟨t,rfl,ht⟩,eA⟩;have dA:=zA hb eA;clear eA q0;by_cases hf:¬yM (f k)
   ·obtain rfl:t=true:=ht.2 hf;have HF:=zd hf;clear ht hf;go_wp2;go_ret;exact⟨Or.inl ⟨k,cA,HF.out,rfl⟩,dA⟩
   ·obtain rfl:t=false:=zQ ht hf;have HF:=zd hf;clear ht hf;go_wp2;go_roundw
    case rel=>
     refine⟨k+1,by omega,by go_num,fun j hj=>?_,dA⟩;by_cases e:j=k
     ·subst e;exact HF.out
     ·exact bA.out j (by omega)
    case measure=>simp[intOf];omega
  ·obtain rfl:k=n:=(by omega);go_wp2;go_ret;exact⟨Or.inr ⟨bA.out,rfl⟩,hb⟩
theorem zNo(v:Value)(n:Nat)(f:Nat->ByteArray)(w:World)(h:zAH w v n f) :
  Calls Tryz.prog 163 #[v,.func (.func 166) #[] #[]] w fun e w'=>zG (∃i,i<n/\¬yM (f i)) e/\Below w.heap.size w w':=by
 have Hp:=zd h;obtain⟨m1,a,c,rfl,hs,-⟩:=h;go_enter Tryz.func163,Tryz.ntmps163;go_wp2_with fail;refine(zLy _ n f w Hp.out).mono ?_;rintro e w1 ⟨hr,bA⟩;rcases hr with⟨i,hi,hP,rfl⟩ | ⟨aA,rfl⟩
 ·have HP:=zd (show ∃i,i<n/\¬yM (f i)from⟨i,hi,hP⟩);have h0:(0:Int)<=(i:Int):=(by omega);clear hP;go_wp2;go_ret;exact⟨zG.yes HP.out,bA⟩
 ·have HP:=zd aA;clear aA;go_wp2;go_ret;exact⟨zG.no fun ⟨i,hi,hq⟩=>HP.out i hi hq,bA⟩
structure qC where
 name:ByteArray
 origin:Int
 zRT:Int
 rs:Int
 rb:Int
 dn:Nat
 ds:Nat->Int
 db:Nat->Int
structure zm where
 id:Int
 name:ByteArray
 set:ByteArray
 zRT:Int
 time:Int
 rs:Int
 rb:Int
 dn:Nat
 ds:Nat->Int
 db:Nat->Int
structure zH where
 zRQ:zJ
 time:Int
 next:Int
 sn:Nat
 zRS:Nat->qC
 pn:Nat
 zRP:Nat->zm
structure zBO (w:World) (b o lo hi:Nat) (vd:Value) (s:qC):Prop where
 c0:w.cell? ⟨b,o,none⟩=some (.string s.name)
 c1:w.cell? ⟨b,o+1,none⟩=some (.int .i64 s.origin)
 c2:w.cell? ⟨b,o+2,none⟩=some (.int .i64 s.zRT)
 c3:w.cell? ⟨b,o+3,none⟩=some (.int .i64 s.rs)
 c4:w.cell? ⟨b,o+4,none⟩=some (.int .i64 s.rb)
 c5:w.cell? ⟨b,o+5,none⟩=some vd
 zRX:zU w lo hi vd s.dn s.ds s.db
 zRZ:s.name.size<=maxLen
theorem zBO.zRJ{w w':World}{b o lo hi:Nat}{vd:Value}{s:qC}(h:zBO w b o lo hi vd s)(t:Below w.heap.size w w'):zBO w' b o lo hi vd s:=
 ⟨(t.cell (zD h.c0)).trans h.c0,(t.cell (zD h.c1)).trans h.c1,(t.cell (zD h.c2)).trans h.c2,(t.cell (zD h.c3)).trans h.c3,(t.cell (zD h.c4)).trans h.c4,(t.cell (zD h.c5)).trans h.c5,h.zRX.zRJ t,h.zRZ⟩
structure zAl (w:World) (b o lo hi:Nat) (vd:Value) (s:zm):Prop where
 c0:w.cell? ⟨b,o,none⟩=some (.int .i64 s.id)
 c1:w.cell? ⟨b,o+1,none⟩=some (.string s.name)
 c2:w.cell? ⟨b,o+2,none⟩=some (.string s.set)
 c3:w.cell? ⟨b,o+3,none⟩=some (.int .i64 s.zRT)
 c4:w.cell? ⟨b,o+4,none⟩=some (.int .i64 s.time)
 c5:w.cell? ⟨b,o+5,none⟩=some (.int .i64 s.rs)
 c6:w.cell? ⟨b,o+6,none⟩=some (.int .i64 s.rb)
 c7:w.cell? ⟨b,o+7,none⟩=some vd
 zRX:zU w lo hi vd s.dn s.ds s.db
 zRZ:s.name.size<=maxLen/\s.set.size<=maxLen
theorem zAl.zRJ{w w':World}{b o lo hi:Nat}{vd:Value}{s:zm}(h:zAl w b o lo hi vd s)(t:Below w.heap.size w w'):zAl w' b o lo hi vd s:=
 ⟨(t.cell (zD h.c0)).trans h.c0,(t.cell (zD h.c1)).trans h.c1,(t.cell (zD h.c2)).trans h.c2,(t.cell (zD h.c3)).trans h.c3,(t.cell (zD h.c4)).trans h.c4,(t.cell (zD h.c5)).trans h.c5,(t.cell (zD h.c6)).trans h.c6,(t.cell (zD h.c7)).trans h.c7,h.zRX.zRJ t,h.zRZ⟩
def yY(w:World)(lo hi:Nat)(v:Value)(n:Nat)(f:Nat->qC):Prop:=
 n<=maxLen/\∃a cap,v = .slice a n cap/\n<=cap/\(0<n->∃b off,a=some ⟨b,off,none⟩/\lo<=b/\b<hi/\∀i,i<n->∃vd,zBO w b (off+i*6) lo hi vd (f i))
def yB(w:World)(lo hi:Nat)(v:Value)(n:Nat)(f:Nat->zm):Prop:=
 n<=maxLen/\∃a cap,v = .slice a n cap/\n<=cap/\(0<n->∃b off,a=some ⟨b,off,none⟩/\lo<=b/\b<hi/\∀i,i<n->∃vd,zAl w b (off+i*8) lo hi vd (f i))
theorem yY.zRJ{w w':World}{lo hi:Nat}{v:Value}{n:Nat}{f:Nat->qC}(h:yY w lo hi v n f)(t:Below w.heap.size w w'):yY w' lo hi v n f:=by
 obtain⟨h0,a,aA,hv,bA,hc⟩:=h;refine⟨h0,a,aA,hv,bA,fun hn=>?_⟩;obtain⟨b,off,ha,h1,h2,h3⟩:=hc hn;refine⟨b,off,ha,h1,h2,fun i hi=>?_⟩;obtain⟨vd,hs⟩:=h3 i hi;exact⟨vd,hs.zRJ t⟩
theorem yB.zRJ{w w':World}{lo hi:Nat}{v:Value}{n:Nat}{f:Nat->zm}(h:yB w lo hi v n f)(t:Below w.heap.size w w'):yB w' lo hi v n f:=by
 obtain⟨h0,a,aA,hv,bA,hc⟩:=h;refine⟨h0,a,aA,hv,bA,fun hn=>?_⟩;obtain⟨b,off,ha,h1,h2,h3⟩:=hc hn;refine⟨b,off,ha,h1,h2,fun i hi=>?_⟩;obtain⟨vd,hs⟩:=h3 i hi;exact⟨vd,hs.zRJ t⟩
theorem yY.cells{w:World}{lo hi:Nat}{a:Option Addr}{n c:Nat}{f:Nat->qC}(h:yY w lo hi (.slice a n c) n f){i:Nat}(hi':i<n):∃b off vd,a=some ⟨b,off,none⟩/\zBO w b (off+i*6) lo hi vd (f i):=by
 obtain⟨h0,a2,aA,hv,bA,hx⟩:=h;simp only[Value.slice.injEq,true_and]at hv;obtain⟨rfl,rfl⟩:=hv;obtain⟨b,off,ha,h1,h2,h3⟩:=hx (by omega);obtain⟨vd,hs⟩:=h3 i hi';exact⟨b,off,vd,ha,hs⟩
theorem yB.cells{w:World}{lo hi:Nat}{a:Option Addr}{n c:Nat}{f:Nat->zm}(h:yB w lo hi (.slice a n c) n f){i:Nat}(hi':i<n):∃b off vd,a=some ⟨b,off,none⟩/\zAl w b (off+i*8) lo hi vd (f i):=by
 obtain⟨h0,a2,aA,hv,bA,hx⟩:=h;simp only[Value.slice.injEq,true_and]at hv;obtain⟨rfl,rfl⟩:=hv;obtain⟨b,off,ha,h1,h2,h3⟩:=hx (by omega);obtain⟨vd,hs⟩:=h3 i hi';exact⟨b,off,vd,ha,hs⟩
structure zl (w:World) (lo hi:Nat) (v0 v1 v2 v3:Value) (W:zH):Prop where
 zRQ:zy w lo hi v0 v1 W.zRQ
 zRS:yY w lo hi v2 W.sn W.zRS
 zRP:yB w lo hi v3 W.pn W.zRP
theorem zl.zRJ{w w':World}{lo hi:Nat}{v0 v1 v2 v3:Value}{W:zH}(h:zl w lo hi v0 v1 v2 v3 W)(t:Below w.heap.size w w'):zl w' lo hi v0 v1 v2 v3 W:=⟨h.zRQ.zRJ t,h.zRS.zRJ t,h.zRP.zRJ t⟩
abbrev zz(v0 v1 v2 v3:Value)(W:zH):Value:=.agg #[v0,v1,.int .i64 W.time,.int .i64 W.next,v2,v3]
def yC(W:zH)(id:Int)(k:Nat):Prop:=k<W.pn/\(W.zRP k).id=id/\∀j,j<k->(W.zRP j).id≠id
def zGA(W:zH)(name:ByteArray)(k:Nat):Prop:=k<W.sn/\(W.zRS k).name=name/\∀j,j<k->(W.zRS j).name≠name
theorem yC.uniq{W:zH}{id:Int}{i j:Nat}(h:yC W id i)(h':yC W id j):i=j:=by
 rcases Nat.lt_trichotomy i j with e | e | e
 ·exact absurd h.2.1 (h'.2.2 i e)
 ·exact e
 ·exact absurd h'.2.1 (h.2.2 j e)
theorem zGA.uniq{W:zH}{name:ByteArray}{i j:Nat}(h:zGA W name i)(h':zGA W name j):i=j:=by
 rcases Nat.lt_trichotomy i j with e | e | e
 ·exact absurd h.2.1 (h'.2.2 i e)
 ·exact e
 ·exact absurd h'.2.1 (h.2.2 j e)
def zi(w:World)(b:Nat)(v0 v1 v2 v3 v4 v5:Value):Prop:=zX w b 0 v0/\zX w b 1 v1/\zX w b 2 v2/\zX w b 3 v3/\zX w b 4 v4/\zX w b 5 v5
theorem zi.zRJ{w w':World}{b:Nat}{v0 v1 v2 v3 v4 v5:Value}(h:zi w b v0 v1 v2 v3 v4 v5)(t:Below w.heap.size w w'):zi w' b v0 v1 v2 v3 v4 v5:=⟨h.1.zRJ t,h.2.1.zRJ t,h.2.2.1.zRJ t,h.2.2.2.1.zRJ t,h.2.2.2.2.1.zRJ t,h.2.2.2.2.2.zRJ t⟩
theorem zi.zRR{S:Nat->Prop}{w w':World}{b:Nat}{v0 v1 v2 v3 v4 v5:Value}(h:zi w b v0 v1 v2 v3 v4 v5)(t:zF S w w')(hs:¬S b):zi w' b v0 v1 v2 v3 v4 v5:=⟨h.1.zRR t hs,h.2.1.zRR t hs,h.2.2.1.zRR t hs,h.2.2.2.1.zRR t hs,h.2.2.2.2.1.zRR t hs,h.2.2.2.2.2.zRR t hs⟩
theorem zi.zRL(w:World)(v0 v1 v2 v3 v4 v5:Value)(t:TypeId):zi (w.alloc (.cells #[v0,v1,v2,v3,v4,v5] t)) w.heap.size v0 v1 v2 v3 v4 v5:=by
 have hb:(w.alloc (.cells #[v0,v1,v2,v3,v4,v5] t)).heap[w.heap.size]?=some (.cells #[v0,v1,v2,v3,v4,v5] t):=heap_alloc_new _ _;exact⟨zI hb rfl,zI hb rfl,zI hb rfl,zI hb rfl,zI hb rfl,zI hb rfl⟩
abbrev put6(w:World)(b:Nat)(u0 u1 u2 u3 u4 u5:Value):World:=(((((w.setCell ⟨b,0,none⟩ u0).setCell ⟨b,1,none⟩ u1).setCell ⟨b,2,none⟩ u2).setCell ⟨b,3,none⟩ u3).setCell ⟨b,4,none⟩ u4).setCell ⟨b,5,none⟩ u5
theorem zi.put{w:World}{b:Nat}{v0 v1 v2 v3 v4 v5:Value}(h:zi w b v0 v1 v2 v3 v4 v5)(u0 u1 u2 u3 u4 u5:Value):zi (put6 w b u0 u1 u2 u3 u4 u5) b u0 u1 u2 u3 u4 u5:=by
 obtain⟨h0,h1,h2,h3,h4,h5⟩:=h;refine⟨?_,?_,?_,?_,?_,?_⟩
 ·exact(((((h0.set _).zRK _ (Or.inr (by omega))).zRK _ (Or.inr (by omega))).zRK _ (Or.inr (by omega))).zRK _ (Or.inr (by omega))).zRK _ (Or.inr (by omega))
 ·exact(((((h1.zRK _ (Or.inr (by omega))).set _).zRK _ (Or.inr (by omega))).zRK _ (Or.inr (by omega))).zRK _ (Or.inr (by omega))).zRK _ (Or.inr (by omega))
 ·exact(((((h2.zRK _ (Or.inr (by omega))).zRK _ (Or.inr (by omega))).set _).zRK _ (Or.inr (by omega))).zRK _ (Or.inr (by omega))).zRK _ (Or.inr (by omega))
 ·exact(((((h3.zRK _ (Or.inr (by omega))).zRK _ (Or.inr (by omega))).zRK _ (Or.inr (by omega))).set _).zRK _ (Or.inr (by omega))).zRK _ (Or.inr (by omega))
 ·exact(((((h4.zRK _ (Or.inr (by omega))).zRK _ (Or.inr (by omega))).zRK _ (Or.inr (by omega))).zRK _ (Or.inr (by omega))).set _).zRK _ (Or.inr (by omega))
 ·exact(((((h5.zRK _ (Or.inr (by omega))).zRK _ (Or.inr (by omega))).zRK _ (Or.inr (by omega))).zRK _ (Or.inr (by omega))).zRK _ (Or.inr (by omega))).set _
theorem zF.put6(w:World)(b:Nat)(u0 u1 u2 u3 u4 u5:Value):zF (fun k=>k=b) w (put6 w b u0 u1 u2 u3 u4 u5):=
 (((((zF.put w b 0 u0).trans (zF.put _ b 1 u1)).trans (zF.put _ b 2 u2)).trans (zF.put _ b 3 u3)).trans (zF.put _ b 4 u4)).trans (zF.put _ b 5 u5)
theorem zB{P:Prop}(h:P):Hid P:=h
def zFm(n:Nat)(P:Nat->Prop)(r:Int):Prop:=(∃k:Nat,k<n/\P k/\(∀j,j<k->¬P j)/\r=k)\/((∀j,j<n->¬P j)/\r = -1)
theorem qH(v0 v1 v2 v3:Value)(lo hi:Nat)(W:zH)(x:Int)(w:World)(h:zl w lo hi v0 v1 v2 v3 W) :
  Calls Tryz.prog 49 #[zz v0 v1 v2 v3 W,.int .i64 x] w fun e w'=>∃r:Int,e = .returned (.int .i64 r)/\zFm W.pn (fun k=>(W.zRP k).id=x) r/\Below w.heap.size w w':=by
 have Hp:=zB h.zRP;obtain⟨m1,a,c,rfl,mc,_⟩:=id h.zRP;unfold maxLen at m1;clear h;have ha:=zC w (.cells #[v0,v1,.int .i64 W.time,.int .i64 W.next,v2,.slice a W.pn c] 37);have HB:=zB (zi.zRL w v0 v1 (.int .i64 W.time) (.int .i64 W.next) v2 (.slice a W.pn c) 37);go_enter Tryz.func49,Tryz.ntmps49;go_wp2
 go_loopw [5] (fun i wr=>∃k:Nat,k<=W.pn/\i = .int .i64 k/\(∀j,j<k->¬(W.zRP j).id=x)/\zi wr w.heap.size v0 v1 (.int .i64 W.time) (.int .i64 W.next) v2 (.slice a W.pn c)/\Below w.heap.size w wr) (fun i _=>W.pn - (intOf i).toNat)
 case atStart=>exact⟨0,Nat.zero_le _,rfl,fun j hj=>absurd hj (Nat.not_lt_zero _),HB.out,ha⟩
 case round=>
  obtain⟨k,hk,rfl,cA,hX,hb⟩:=hrel;have aA:=zB cA;have HX:=zB hX;clear cA hX;obtain⟨⟨x0,x1⟩,⟨x2,x3⟩,⟨x4,x5⟩,⟨x6,x7⟩,⟨x8,x9⟩,⟨fA,eA⟩⟩:=HX.out;by_cases bA:k<W.pn
  ·have dA:(k:Int)<(W.pn:Int):=(by omega);obtain⟨b,off,vd,rfl,hs⟩:=(Hp.out.zRJ hb).cells bA;have q0:=hs.c0;clear hs;by_cases he:(W.zRP k).id=x
   ·have H:=zB he;rw[he]at q0;clear he;go_wp2;go_ret;exact⟨k,rfl,Or.inl ⟨k,bA,H.out,aA.out,rfl⟩,hb⟩
   ·have H:=zB he;have e0:((W.zRP k).id == x)=false:=(by simp[he]);clear he;go_wp2;go_roundw
    case rel=>
     refine⟨k+1,by omega,by go_num,?_,HX.out,hb⟩;intro j hj;by_cases e:j=k
     ·subst e;exact H.out
     ·exact aA.out j (by omega)
    case measure=>simp[intOf];omega
  ·obtain rfl:k=W.pn:=(by omega);go_wp2;go_ret;exact⟨-1,rfl,Or.inr ⟨aA.out,rfl⟩,hb⟩
theorem zIM(v0 v1 v2 v3:Value)(lo hi:Nat)(W:zH)(x:ByteArray)(w:World)(h:zl w lo hi v0 v1 v2 v3 W) :
  Calls Tryz.prog 27 #[zz v0 v1 v2 v3 W,.string x] w fun e w'=>∃r:Int,e = .returned (.int .i64 r)/\zFm W.sn (fun k=>(W.zRS k).name=x) r/\Below w.heap.size w w':=by
 have Hp:=zB h.zRS;obtain⟨m1,a,c,rfl,mc,_⟩:=id h.zRS;unfold maxLen at m1;clear h;have ha:=zC w (.cells #[v0,v1,.int .i64 W.time,.int .i64 W.next,.slice a W.sn c,v3] 37);have HB:=zB (zi.zRL w v0 v1 (.int .i64 W.time) (.int .i64 W.next) (.slice a W.sn c) v3 37);go_enter Tryz.func27,Tryz.ntmps27;go_wp2
 go_loopw [5] (fun i wr=>∃k:Nat,k<=W.sn/\i = .int .i64 k/\(∀j,j<k->¬(W.zRS j).name=x)/\zi wr w.heap.size v0 v1 (.int .i64 W.time) (.int .i64 W.next) (.slice a W.sn c) v3/\Below w.heap.size w wr) (fun i _=>W.sn - (intOf i).toNat)
 case atStart=>exact⟨0,Nat.zero_le _,rfl,fun j hj=>absurd hj (Nat.not_lt_zero _),HB.out,ha⟩
 case round=>
  obtain⟨k,hk,rfl,cA,hX,hb⟩:=hrel;have aA:=zB cA;have HX:=zB hX;clear cA hX;obtain⟨⟨x0,x1⟩,⟨x2,x3⟩,⟨x4,x5⟩,⟨x6,x7⟩,⟨x8,x9⟩,⟨fA,eA⟩⟩:=HX.out;by_cases bA:k<W.sn
  ·have dA:(k:Int)<(W.sn:Int):=(by omega);obtain⟨b,off,vd,rfl,hs⟩:=(Hp.out.zRJ hb).cells bA;have q0:=hs.c0;clear hs;by_cases he:(W.zRS k).name=x
   ·have H:=zB he;rw[he]at q0;clear he;go_wp2;go_ret;exact⟨k,rfl,Or.inl ⟨k,bA,H.out,aA.out,rfl⟩,hb⟩
   ·have H:=zB he;have e0:((W.zRS k).name.toList == x.toList)=false:=zEO he;clear he;go_wp2;go_roundw
    case rel=>
     refine⟨k+1,by omega,by go_num,?_,HX.out,hb⟩;intro j hj;by_cases e:j=k
     ·subst e;exact H.out
     ·exact aA.out j (by omega)
    case measure=>simp[intOf];omega
  ·obtain rfl:k=W.sn:=(by omega);go_wp2;go_ret;exact⟨-1,rfl,Or.inr ⟨aA.out,rfl⟩,hb⟩
def zKI(W:zH)(x s b t:Int):Prop:=(∃k,x≠0/\yC W x k/\s=(W.zRP k).rs/\b=(W.zRP k).rb/\t=(W.zRP k).time)\/((x=0\/∀k,k<W.pn->(W.zRP k).id≠x)/\s=0/\b=0/\t=0)
theorem zAj(v0 v1 v2 v3:Value)(lo hi:Nat)(W:zH)(x:Int)(w:World)(h:zl w lo hi v0 v1 v2 v3 W) :
  Calls Tryz.prog 52 #[zz v0 v1 v2 v3 W,.int .i64 x] w fun e w'=>∃s b t:Int,e = .returned (.tuple #[.agg #[.int .i64 s,.int .i64 b],.int .i64 t])/\zKI W x s b t/\Below w.heap.size w w':=by
 have Hp:=zB h;obtain⟨m1,a,c,rfl,mc,_⟩:=id h.zRP;unfold maxLen at m1;clear h;have ha:=zC w (.cells #[v0,v1,.int .i64 W.time,.int .i64 W.next,v2,.slice a W.pn c] 37);have hB:=zi.zRL w v0 v1 (.int .i64 W.time) (.int .i64 W.next) v2 (.slice a W.pn c) 37;have eA:=zC (w.alloc (.cells #[v0,v1,.int .i64 W.time,.int .i64 W.next,v2,.slice a W.pn c] 37)) (.cells #[.int .i64 0,.int .i64 0] 61);have hR:=zc.zRL (w.alloc (.cells #[v0,v1,.int .i64 W.time,.int .i64 W.next,v2,.slice a W.pn c] 37)) (.int .i64 0) (.int .i64 0) 61;have dA:=hB.zRJ eA;have bA:=zA ha eA;have gA:(w.alloc (.cells #[v0,v1,.int .i64 W.time,.int .i64 W.next,v2,.slice a W.pn c] 37)).heap.size=w.heap.size+1:=World.size_alloc _ _;rw[gA]at hR;clear ha eA hB;go_enter Tryz.func52,Tryz.ntmps52;go_wp2_with fail;generalize ((w.alloc (.cells #[v0,v1,.int .i64 W.time,.int .i64 W.next,v2,.slice a W.pn c] 37)).alloc (.cells #[.int .i64 0,.int .i64 0] 61))=W0 at hR dA bA ⊢;refine(qH v0 v1 v2 _ lo hi W x W0 (Hp.out.zRJ bA)).mono ?_;rintro e w1 ⟨r,rfl,hF,cA⟩;have jA:=hR.zRJ cA;have fA:=dA.zRJ cA;have aA:=zA bA cA;clear hR dA bA cA gA;have HR:=zB jA;have HX:=zB fA;clear jA fA;obtain⟨⟨y0,y1⟩,⟨y2,y3⟩⟩:=HR.out;obtain⟨⟨x0,x1⟩,⟨x2,x3⟩,⟨x4,x5⟩,⟨x6,x7⟩,⟨x8,x9⟩,⟨sA,oA⟩⟩:=HX.out;by_cases hx:x=0
 ·subst hx;clear hF;go_wp2;refine bodyPost_ret (v:=.tuple #[.agg #[.int .i64 0,.int .i64 0],.int .i64 0]) (by simp[results,Tryz.results52,go_sem,y0,y2]) rfl ⟨0,0,0,rfl,Or.inr ⟨Or.inl rfl,rfl,rfl,rfl⟩,?_⟩;exact(aA.setCell (by show w.heap.size<=w.heap.size+1;omega) _).setCell (by show w.heap.size<=w.heap.size+1;omega) _
 ·have Hx:=zB hx;have f0:(x == 0)=false:=(by simp[hx]);clear hx;rcases hF with⟨k,hk,hi',hm,rfl⟩ | ⟨hn,rfl⟩
  ·obtain⟨b,off,vd,rfl,hs⟩:=(Hp.out.zRP.zRJ aA).cells hk;have q4:=hs.c4;have q5:=hs.c5;have q6:=hs.c6;have pA:(k:Int)<(W.pn:Int):=(by omega);have nA:b<w.heap.size:=by
    obtain⟨b2,mA,tA,e2,lA⟩:=Hp.out.zRP.cells hk;cases e2;exact zD lA.c0
   have rA:b≠w.heap.size+1:=(by omega);have kA:w.heap.size≠w.heap.size+1:=(by omega);have Hk:=zB (And.intro hi' hm);clear hs hi' hm nA;have iA:w.heap.size<=w.heap.size+1:=(by omega);generalize w.heap.size+1=R at *;go_wp2;go_region;go_wp2;refine bodyPost_ret (v:=.tuple #[.agg #[.int .i64 (W.zRP k).rs,.int .i64 (W.zRP k).rb],.int .i64 (W.zRP k).time]) (by simp[results,Tryz.results52,go_sem,y0,y2]) rfl ⟨_,_,_,rfl,Or.inl ⟨k,Hx.out,⟨hk,Hk.out.1,Hk.out.2⟩,rfl,rfl,rfl⟩,?_⟩;exact((aA.setCell iA _).setCell iA _).drew
  ·have Hn:=zB hn;clear hn;go_wp2;refine bodyPost_ret (v:=.tuple #[.agg #[.int .i64 0,.int .i64 0],.int .i64 0]) (by simp[results,Tryz.results52,go_sem,y0,y2]) rfl ⟨0,0,0,rfl,Or.inr ⟨Or.inr Hn.out,rfl,rfl,rfl⟩,?_⟩;exact(aA.setCell (by show w.heap.size<=w.heap.size+1;omega) _).setCell (by show w.heap.size<=w.heap.size+1;omega) _
open Go.Maps
def zB3(t:Int):Prop:=0<=t/\t<=1000000
def zEw(s b:Int):Prop:=0<=s/\s<=199/\1<=b/\b<=1000000
def zLI(n:Nat)(f:Nat->Int):Prop:=∀i,i<n->∀k,k<i->f k≠f i
def qx(n:Nat)(f g:Nat->Int):Prop:=n<=200/\(∀i,i<n->zEw (f i) (g i))/\zLI n f
def PIn(n:Nat)(f g:Nat->Int)(x y:Int):Prop:=∃j,j<n/\f j=x/\g j=y
def zEU(n:Nat)(f g:Nat->Int)(m:Nat)(f' g':Nat->Int):Prop:=qx n f g/\qx m f' g'/\n=m/\∀i,i<n->PIn m f' g' (f i) (g i)
theorem zLI.inj{n:Nat}{f:Nat->Int}(h:zLI n f){i k:Nat}(hi:i<n)(hk:k<n)(e:f i=f k):i=k:=by
 rcases Nat.lt_trichotomy i k with h1 | h1 | h1
 ·exact absurd e (h k hk i h1)
 ·exact h1
 ·exact absurd e.symm (h i hi k h1)
theorem zNN:∀(n m:Nat) (h:Nat->Nat),(∀i,i<n->h i<m)->(∀i k,i<n->k<n->h i=h k->i=k)->n<=m
 | 0,_,_,_,_=>Nat.zero_le _
 | n+1,m,h,h1,h2=>by
  have hm:=h1 n (Nat.lt_succ_self n);have:=zNN n (m - 1) (fun i=>if h i<h n then h i else h i - 1) (fun i hi=>by
   have:=h1 i (by omega);have:h i≠h n:=fun e=>by have:=h2 i n (by omega) (by omega) e;omega
   show(if h i<h n then h i else h i - 1)<m - 1;split<;>omega) (fun i k hi hk e=>by
   have a1:h i≠h n:=fun e=>by have:=h2 i n (by omega) (by omega) e;omega
   have a2:h k≠h n:=fun e=>by have:=h2 k n (by omega) (by omega) e;omega
   have e':(if h i<h n then h i else h i - 1)=(if h k<h n then h k else h k - 1):=e;refine h2 i k (by omega) (by omega) ?_;split at e'<;>split at e'<;>omega)
  omega
theorem zOa{n:Nat}{f g f' g':Nat->Int}(h1:qx n f g)(h2:qx n f' g')(h:∀i,i<n->PIn n f' g' (f i) (g i)):∀j,j<n->PIn n f g (f' j) (g' j):=by
 intro j hj;by_cases hx:PIn n f g (f' j) (g' j)
 ·exact hx
 ·exfalso;have:=zNN n (n - 1) (fun i=>if hi:i<n then(if (h i hi).choose<j then(h i hi).choose else(h i hi).choose - 1)else 0) (fun i hi=>by
   have hs:=(h i hi).choose_spec;have cA:(h i hi).choose≠j:=fun e=>hx ⟨i,hi,by rw[<-hs.2.1,e],by rw[<-hs.2.2,e]⟩
   simp only[hi,dif_pos];split<;>omega) (fun i k hi hk e=>by
   have hs:=(h i hi).choose_spec;have aA:=(h k hk).choose_spec;have cA:(h i hi).choose≠j:=fun e=>hx ⟨i,hi,by rw[<-hs.2.1,e],by rw[<-hs.2.2,e]⟩
   have bA:(h k hk).choose≠j:=fun e=>hx ⟨k,hk,by rw[<-aA.2.1,e],by rw[<-aA.2.2,e]⟩
   simp only[hi,hk,dif_pos]at e;have e2:(h i hi).choose=(h k hk).choose:=(by split at e<;>split at e<;>omega);refine h1.2.2.inj hi hk ?_;rw[<-hs.2.1,<-aA.2.1,e2])
  omega
theorem zEU.symm{n m:Nat}{f g f' g':Nat->Int}(h:zEU n f g m f' g'):zEU m f' g' n f g:=by
 obtain⟨h1,h2,rfl,h3⟩:=h;exact⟨h2,h1,rfl,zOa h1 h2 h3⟩
def zBz(x:Int):Lit:=.int .i64 x
theorem zHL{x y:Int}(h:x≠y):zBz x≠zBz y:=fun e=>h (by unfold zBz at e;injection e)
theorem zID(x:Int):WideAt.IsKeyLit (zBz x):=trivial
def zDV(x:Int):DataW Unit:=.lit (.int .i64 x)
theorem zFx{x y:Int}(h:zDV x=zDV y):x=y:=by unfold zDV at h;injection h with h;injection h
def seenD(f g:Nat->Int):Nat->DataW Unit
 | 0=>.map []
 | k+1=>(seenD f g k).put (zBz (f k)) (zDV (g k))
theorem zDG(f g:Nat->Int):∀k,Tidy (seenD f g k)
 | 0=>tidy_empty
 | k+1=>(zDG f g k).put (zID _) _
theorem zEH(f g:Nat->Int)(x:Int):∀k,Maps.has (seenD f g k) (zBz x)=true↔∃i,i<k/\f i=x
 | 0=>by
  constructor
  ·intro h;exact absurd h (by simp[seenD,Maps.has])
  ·rintro⟨i,hi,_⟩;omega
 | k+1=>by
  by_cases hx:f k=x
  ·subst hx;exact⟨fun _=>⟨k,by omega,rfl⟩,fun _=>has_put_same (zDG f g k).isMap (zID _) _⟩
  ·rw[show Maps.has (seenD f g (k+1)) (zBz x)=Maps.has (seenD f g k) (zBz x)from has_put_other (zHL (Ne.symm hx)) _,zEH f g x k];constructor
   ·rintro⟨i,hi,e⟩;exact⟨i,by omega,e⟩
   ·rintro⟨i,hi,e⟩;by_cases h:i=k
    ·subst h;exact absurd e hx
    ·exact⟨i,by omega,e⟩
theorem zGI{k:Nat}{f:Nat->Int}:zLI (k+1) f↔zLI k f/\∀i,i<k->f i≠f k:=by
 constructor
 ·exact fun h=>⟨fun i hi=>h i (by omega),fun i hi=>h k (by omega) i hi⟩
 ·rintro⟨h1,h2⟩ i hi j hj;by_cases e:i=k
  ·subst e;exact h2 j hj
  ·exact h1 i (by omega) j hj
theorem zGi(f g:Nat->Int):∀k,Maps.size (seenD f g k)<=k/\(Maps.size (seenD f g k)=k↔zLI k f)
 | 0=>⟨Nat.le_refl _,fun _ i hi=>by omega,fun _=>rfl⟩
 | k+1=>by
  obtain⟨h1,h2⟩:=zGi f g k;have e:Maps.size (seenD f g (k+1))=if Maps.has (seenD f g k) (zBz (f k))then Maps.size (seenD f g k)else Maps.size (seenD f g k)+1:=size_put (zDG f g k) _
  by_cases hh:Maps.has (seenD f g k) (zBz (f k))=true
  ·rw[if_pos hh]at e;rw[e,zGI];refine⟨by omega,fun h=>by omega,fun h=>?_⟩;obtain⟨i,hi,he⟩:=(zEH f g (f k) k).1 hh;exact absurd he (h.2 i hi)
  ·rw[if_neg hh]at e;rw[e,zGI,<-h2];refine⟨by omega,fun h=>⟨by omega,fun i hi he=>hh ((zEH f g (f k) k).2 ⟨i,hi,he⟩)⟩,fun h=>by omega⟩
theorem zNc{n:Nat}{f:Nat->Int}(g:Nat->Int)(hd:zLI n f)(z:DataW Unit):∀k,k<=n->∀i,i<k->(seenD f g k).atKey (zBz (f i)) z=zDV (g i)
 | 0,_,i,hi=>absurd hi (Nat.not_lt_zero _)
 | k+1,hk,i,hi=>by
  by_cases e:i=k
  ·subst e;exact atKey_put_same (zDG f g i).isMap (zID _) _ _
  ·exact(atKey_put_other (zHL (fun h=>e (hd.inj (by omega) (by omega) h))) _ _).trans (zNc g hd z k (by omega) i (by omega))
structure zDK (n:Nat) (f g f':Nat->Int) (k:Nat) (D:DataW Unit):Prop where
 tidy:Tidy D
 size:Maps.size D+k=n
 at':∀x,(∀j,j<k->f' j≠x)->(∀i,i<n->f i=x->D.atKey (zBz x) (zDV 0)=zDV (g i))/\((∀i,i<n->f i≠x)->D.atKey (zBz x) (zDV 0)=zDV 0)
 has:∀x,Maps.has D (zBz x)=true↔(∃i,i<n/\f i=x)/\∀j,j<k->f' j≠x
theorem zDK.start{n:Nat}{f g:Nat->Int}(h:qx n f g)(f':Nat->Int):zDK n f g f' 0 (seenD f g n) where
 tidy:=zDG f g n
 size:=by rw[(zGi f g n).2.2 h.2.2];rfl
 at':=fun x _=>⟨fun i hi e=>by subst e;exact zNc g h.2.2 _ n (Nat.le_refl _) i hi,fun aA=>by
  refine atKey_of_not_has ?_ _;rw[Bool.eq_false_iff];intro hh;obtain⟨i,hi,e⟩:=(zEH f g x n).1 hh;exact aA i hi e⟩
 has:=fun x=>by
  rw[zEH];exact⟨fun h=>⟨h,fun j hj=>absurd hj (Nat.not_lt_zero _)⟩,fun h=>h.1⟩
theorem zDK.next{n m:Nat}{f g f' g':Nat->Int}{k:Nat}{D:DataW Unit}(h:zDK n f g f' k D)(h2:qx m f' g')(hk:k<m)(e:D.atKey (zBz (f' k)) (zDV 0)=zDV (g' k)):zDK n f g f' (k+1) (D.del (zBz (f' k))):=by
 have bA:Maps.has D (zBz (f' k))=true:=by
  by_cases hh:Maps.has D (zBz (f' k))=true
  ·exact hh
  ·rw[atKey_of_not_has (by simpa using hh)]at e;have:=zFx e;have:=(h2.2.1 k hk).2.2.1;omega
 have hs:=size_del (k:=zBz (f' k)) h.tidy;rw[bA]at hs;refine⟨h.tidy.del _,?_,fun x hx=>?_,fun x=>?_⟩
 ·have:=h.size;have cA:Maps.size (D.del (zBz (f' k)))+1=Maps.size D:=hs;omega
 ·have aA:f' k≠x:=hx k (by omega);rw[atKey_del_other (zHL (Ne.symm aA))];exact h.at' x (fun j hj=>hx j (by omega))
 ·by_cases aA:f' k=x
  ·subst aA;rw[has_del_same];exact⟨fun h=>absurd h (by simp),fun h=>absurd rfl (h.2 k (by omega))⟩
  ·rw[has_del_other (zHL (Ne.symm aA)),h.has x];refine and_congr_right fun _=>⟨fun h j hj=>?_,fun h j hj=>h j (by omega)⟩
   by_cases ej:j=k
   ·subst ej;exact aA
   ·exact h j (by omega)
theorem zDK.no{n m:Nat}{f g f' g':Nat->Int}{k:Nat}{D:DataW Unit}(h:zDK n f g f' k D)(h1:qx n f g)(h2:qx m f' g')(hk:k<m){c:Int}(e:D.atKey (zBz (f' k)) (zDV 0)=zDV c)(hc:c≠g' k):¬zEU n f g m f' g':=by
 intro hs;obtain⟨i,hi,e1,e2⟩:=hs.symm.2.2.2 k hk;have:=(h.at' (f' k) (fun j hj=>h2.2.2 k hk j hj)).1 i hi e1;rw[e]at this;exact hc ((zFx this).trans e2)
theorem zDK.end{n m:Nat}{f g f' g':Nat->Int}{D:DataW Unit}(h:zDK n f g f' m D)(h1:qx n f g)(h2:qx m f' g')(aA:∀j,j<m->PIn n f g (f' j) (g' j)):Maps.size D=0↔zEU n f g m f' g':=by
 have hs:=h.size;constructor
 ·intro h0;obtain rfl:m=n:=(by omega);exact zEU.symm ⟨h2,h1,rfl,aA⟩
 ·intro hp;have:=hp.2.2.1;omega
theorem zDK.in{n m:Nat}{f g f' g':Nat->Int}{k:Nat}{D:DataW Unit}(h:zDK n f g f' k D)(h2:qx m f' g')(hk:k<m)(e:D.atKey (zBz (f' k)) (zDV 0)=zDV (g' k)):PIn n f g (f' k) (g' k):=by
 by_cases hx:∃i,i<n/\f i=f' k
 ·obtain⟨i,hi,ei⟩:=hx;have:=(h.at' (f' k) (fun j hj=>h2.2.2 k hk j hj)).1 i hi ei;rw[e]at this;exact⟨i,hi,ei,(zFx this).symm⟩
 ·have:=(h.at' (f' k) (fun j hj=>h2.2.2 k hk j hj)).2 (fun i hi e=>hx ⟨i,hi,e⟩);rw[e]at this;have:=zFx this;have:=(h2.2.1 k hk).2.2.1;omega
def qd(f g:Nat->Int)(t:Int):Nat->List (Int×Int)
 | 0=>[]
 | k+1=>if t<g k then qd f g t k ++ [(f k,g k)] else qd f g t k
def zBf(f g:Nat->Int)(t:Int):Nat->List (Int×Int)
 | 0=>[]
 | k+1=>if t<g k then zBf f g t k else zBf f g t k ++ [(f k,g k)]
theorem zCL(f g:Nat->Int)(t:Int):∀k,(qd f g t k).length+(zBf f g t k).length=k
 | 0=>rfl
 | k+1=>by
  have:=zCL f g t k;unfold qd zBf;split<;>simp<;>omega
theorem zY{P:Prop}(h:P):Hid P:=h
theorem zU.zRN{w:World}{lo hi:Nat}{a:Option Addr}{n c:Nat}{f g:Nat->Int}(h:zU w lo hi (.slice a n c) n f g){k:Nat}(hk:k<n):∃b off,a=some ⟨b,off,none⟩/\w.cell? ⟨b,off+k*2,none⟩=some (.int .i64 (f k))/\w.cell? ⟨b,off+k*2+1,none⟩=some (.int .i64 (g k)):=by
 obtain⟨_,a2,c2,hv,_,hx⟩:=h;simp only[Value.slice.injEq,true_and]at hv;obtain⟨rfl,rfl⟩:=hv;obtain⟨b,off,ha,_,_,h3⟩:=hx (by omega);exact⟨b,off,ha,(h3 k hk).1,(h3 k hk).2⟩
theorem zKl(x y:Int)(w:World):Calls Tryz.prog 214 #[.agg #[.int .i64 x,.int .i64 y]] w fun e w'=>zG (zEw x y) e/\Below w.heap.size w w':=by
 have aA:=zC w (.cells #[.int .i64 x,.int .i64 y] 61);by_cases h1:0<=x
 ·by_cases h2:x<200
  ·by_cases h3:qw y
   ·have H:=zY (show zEw x y from⟨h1,by omega,h3.1,h3.2⟩);have H3:=zY h3;clear h3;go_enter Tryz.func214,Tryz.ntmps214;go_wp2_with (first | (go_at_call 156;refine(qM y _).mono ?_;rintro e w1 ⟨⟨t,rfl,ht⟩,rfl⟩;obtain rfl:t=true:=ht.2 H3.out;clear ht) | fail);go_wp2;go_ret;exact⟨zG.yes H.out,aA⟩
   ·have H:=zY (show ¬zEw x y from fun h=>h3 ⟨h.2.2.1,h.2.2.2⟩);have H3:=zY h3;clear h3;go_enter Tryz.func214,Tryz.ntmps214;go_wp2_with (first | (go_at_call 156;refine(qM y _).mono ?_;rintro e w1 ⟨⟨t,rfl,ht⟩,rfl⟩;obtain rfl:t=false:=zQ ht H3.out;clear ht) | fail);go_wp2;go_ret;exact⟨zG.no H.out,aA⟩
  ·go_enter Tryz.func214,Tryz.ntmps214;go_wp2;go_ret;exact⟨zG.no fun h=>by have:=h.2.1;omega,aA⟩
 ·go_enter Tryz.func214,Tryz.ntmps214;go_wp2;go_ret;exact⟨zG.no fun h=>by have:=h.1;omega,aA⟩
theorem zQh:Keyed Tryz.prog 2:=int_keyed (q:=.i64) (by kernel_rfl)
theorem zPT:Tryz.prog.underlying 243=some (.map 2 2):=by kernel_rfl
theorem zQJ:Tryz.prog.underlying 2=some (.int .i64):=by kernel_rfl
theorem zQ5(w:World):(zeroValue 2).run Tryz.prog w = .ok (.int .i64 0) w:=by kernel_rfl
theorem zHW{x:Int}(h0:0<=x)(h1:x<=1000000):(Lit.int .i64 x).wf=true:=WalkArith.wf_i64 (by omega)
def zOm(w:World)(B n:Nat)(D:DataW Unit):Prop:=w.ownsMap Tryz.prog 2 (plainElem Tryz.prog 2) B n D
theorem zE9(v:Value)(n lo hi:Nat)(f g:Nat->Int)(w:World)(h1:zU w lo hi v n f g)(hn:n<=200)(jA:∀i,i<n->zEw (f i) (g i)) :
  Calls Tryz.prog 215 #[v] w fun e w'=>e = .returned (.map (some w.heap.size))/\zOm w' w.heap.size n (seenD f g n)/\Below w.heap.size w w':=by
 have Hp:=zY h1;have gA:=zY jA;obtain⟨m1,a,c,rfl,mc,_⟩:=id h1;clear h1 jA;have nA:=@run_makeMap Tryz.prog;go_enter Tryz.func215,Tryz.ntmps215;go_wp2
 go_loopw [9] (fun i wr=>∃k:Nat,k<=n/\i = .int .i64 k/\zOm wr w.heap.size k (seenD f g k)/\Below w.heap.size w wr) (fun i _=>n - (intOf i).toNat)
 case atStart=>exact⟨0,Nat.zero_le _,rfl,World.ownsMap_made _ _ _ _,(Below.refl _ _).alloc (Nat.le_refl _) _⟩
 case round=>
  obtain⟨k,hk,rfl,dA,hb⟩:=hrel;have bA:=zY dA;clear dA;by_cases cA:k<n
  ·have mA:(k:Int)<(n:Int):=(by omega);obtain⟨b,off,rfl,q0,q1⟩:=(Hp.out.zRJ hb).zRN cA;have eA:keyOf Tryz.prog 2 (.int .i64 (f k))=some (zBz (f k)):=keyOf_int_mk zQJ (zHW (gA.out k cA).1 (by have:=(gA.out k cA).2.1;omega));have kA:=zHW (x:=g k) (by have:=(gA.out k cA).2.2.1;omega) (gA.out k cA).2.2.2;have iA:=zY eA;have lA:=zY kA;clear eA kA;go_wp2_with (first
    | (at_mapUpdate;refine wpList_mapUpdate_own _ rfl _ _ _ 243 rfl 2 2 zQh zPT _ w.heap.size k _ rfl (bA.out.alloc _) (by unfold maxLen;omega) _ _ _ rfl rfl iA.out _ [] (plainElem_int zQJ lA.out) ?_;intro w1 fA aA)
    | go_in)
   go_roundw
   case rel=>exact⟨k+1,by omega,by go_num,fA,(hb.alloc hb.size _).grown aA (by rw[World.size_alloc];have:=hb.size;omega) (fun j hj=>by cases hj;exact Nat.le_refl _)⟩
   case measure=>simp[intOf];omega
  ·obtain rfl:k=n:=(by omega);go_wp2;go_ret;exact⟨rfl,bA.out,hb⟩
theorem qj(v:Value)(n lo hi:Nat)(f g:Nat->Int)(w:World)(h1:zU w lo hi v n f g) :
  Calls Tryz.prog 186 #[v] w fun e w'=>zG (qx n f g) e/\Below w.heap.size w w':=by
 have Hp:=zY h1;obtain⟨m1,a,c,rfl,mc,_⟩:=id h1;clear h1;unfold maxLen at m1;by_cases hn:n<=200
 ·have mA:¬(200:Int)<(n:Int):=(by omega);go_enter Tryz.func186,Tryz.ntmps186;go_wp2
  go_loopw [10] (fun i wr=>∃k:Nat,k<=n/\i = .int .i64 k/\(∀i,i<k->zEw (f i) (g i))/\Below w.heap.size w wr) (fun i _=>n - (intOf i).toNat)
  case atStart=>exact⟨0,Nat.zero_le _,rfl,fun j hj=>absurd hj (Nat.not_lt_zero _),Below.refl _ _⟩
  case round=>
   obtain⟨k,hk,rfl,cA,hb⟩:=hrel;have aA:=zY cA;clear cA;by_cases fA:k<n
   ·have kA:(k:Int)<(n:Int):=(by omega);obtain⟨b,off,rfl,q0,q1⟩:=(Hp.out.zRJ hb).zRN fA;have iA:=zA hb (zC wr (.cells #[.int .i64 (f k),.int .i64 (g k)] 61));go_wp2_with fail;refine(zKl (f k) (g k) _).mono ?_;rintro e w1 ⟨⟨t,rfl,ht⟩,dA⟩;have eA:=zA iA dA;clear dA iA q0 q1;by_cases bA:zEw (f k) (g k)
    ·have Hk:=zY bA;obtain rfl:t=true:=ht.2 bA;clear ht bA;go_wp2;go_roundw
     case rel=>exact⟨k+1,by omega,by go_num,zo fA aA.out Hk.out,eA⟩
     case measure=>simp[intOf];omega
    ·have Hk:=zY bA;obtain rfl:t=false:=zQ ht bA;clear ht bA;go_wp2;go_ret;exact⟨zG.no fun h=>Hk.out (h.2.1 k fA),eA⟩
   ·obtain rfl:k=n:=(by omega);go_wp2_with fail;refine(zE9 _ k lo hi f g _ (Hp.out.zRJ hb) hn aA.out).mono ?_;rintro e w1 ⟨rfl,hm,dA⟩;have eA:=zA hb dA;have Hm:=zY hm;have lA:=zGi f g k;clear hm dA;obtain⟨nA,gA⟩:=lA;have jA:=zY gA;clear gA;go_wp2_with (first
     | (at_len;refine wpList_len_own _ rfl _ 243 rfl 2 2 zPT _ wr.heap.size k _ rfl Hm.out ?_)
     | go_in)
    go_ret;refine⟨⟨_,rfl,?_⟩,eA⟩;have Ho:=jA.out;have Ha:=aA.out;simp only[beq_iff_eq,Int.natCast_inj];exact Ho.trans ⟨fun h=>⟨hn,Ha,h⟩,fun h=>h.2.2⟩
 ·have mA:(200:Int)<(n:Int):=(by omega);go_enter Tryz.func186,Tryz.ntmps186;go_wp2;go_ret;exact⟨zG.no fun h=>hn h.1,Below.refl _ _⟩
def zBt(n a b:Int):Prop:=a<=n/\n<=b
theorem zBH(n a b:Int)(w:World):Calls Tryz.prog 137 #[.int .i64 n,.int .i64 a,.int .i64 b] w fun e w'=>zG (zBt n a b) e/\w'=w:=by
 by_cases h1:a<=n
 ·by_cases h2:n<=b
  ·go_enter Tryz.func137,Tryz.ntmps137;go_wp2;go_ret;exact⟨zG.yes ⟨h1,h2⟩,rfl⟩
  ·go_enter Tryz.func137,Tryz.ntmps137;go_wp2;go_ret;exact⟨zG.no fun h=>by have:=h.2;omega,rfl⟩
 ·go_enter Tryz.func137,Tryz.ntmps137;go_wp2;go_ret;exact⟨zG.no fun h=>by have:=h.1;omega,rfl⟩
theorem zAB(v:Value)(n lo hi:Nat)(f g:Nat->Int)(w:World)(h1:zU w lo hi v n f g) :
  Calls Tryz.prog 185 #[v] w fun e w'=>zG (qx n f g) e/\Below w.heap.size w w':=by
 have Hp:=zY h1;obtain⟨m1,a,c,rfl,mc,_⟩:=id h1;clear h1;unfold maxLen at m1;by_cases hn:n<=200
 ·have nA:¬(200:Int)<(n:Int):=(by omega);go_enter Tryz.func185,Tryz.ntmps185;go_wp2
  go_loopw [3] (fun i wr=>∃k:Nat,k<=n/\i = .int .i64 k/\(∀i,i<k->zEw (f i) (g i))/\zLI k f/\Below w.heap.size w wr) (fun i _=>n - (intOf i).toNat)
  case atStart=>exact⟨0,Nat.zero_le _,rfl,fun j hj=>absurd hj (Nat.not_lt_zero _),fun j hj=>absurd hj (Nat.not_lt_zero _),Below.refl _ _⟩
  case round=>
   obtain⟨k,hk,rfl,eA,aA,hb⟩:=hrel;have fA:=zY eA;have bA:=zY aA;clear eA aA;by_cases cA:k<n
   ·have mA:(k:Int)<(n:Int):=(by omega);obtain⟨b,off,rfl,q0,q1⟩:=(Hp.out.zRJ hb).zRN cA;by_cases hx:zBt (f k) 0 199
    ·have Hx:=zY hx;clear hx;by_cases hy:qw (g k)
     ·have Hy:=zY hy;clear hy;go_wp2_with (first
       | (go_at_call 137;refine(zBH (f k) 0 199 _).mono ?_;rintro e w1 ⟨⟨t,rfl,ht⟩,rfl⟩;obtain rfl:t=true:=ht.2 Hx.out;clear ht)
       | (go_at_call 145;refine(yX (g k) _).mono ?_;rintro e w2 ⟨⟨t,rfl,ht⟩,rfl⟩;obtain rfl:t=true:=ht.2 Hy.out;clear ht)
       | fail)
      go_wp2
      go_loopw [4] (fun i wr=>∃j:Nat,j<=k/\i = .int .i64 j/\(∀i,i<j->f i≠f k)/\Below w.heap.size w wr) (fun i _=>k - (intOf i).toNat)
      case atStart=>exact⟨0,Nat.zero_le _,rfl,fun j hj=>absurd hj (Nat.not_lt_zero _),hb⟩
      case round=>
       obtain⟨j,hj,rfl,iA,dA⟩:=hrel;have gA:=zY iA;clear iA q0 q1 hb;by_cases jA:j<k
       ·have kA:(j:Int)<(k:Int):=(by omega);have lA:(j:Int)<(n:Int):=(by omega);obtain⟨_,_,ha,r0,_⟩:=(Hp.out.zRJ dA).zRN (show j<n by omega);simp only[Option.some.injEq,Addr.mk.injEq,and_true]at ha;obtain⟨rfl,rfl⟩:=ha;obtain⟨_,_,ha,s0,_⟩:=(Hp.out.zRJ dA).zRN cA;simp only[Option.some.injEq,Addr.mk.injEq,and_true]at ha;obtain⟨rfl,rfl⟩:=ha;by_cases he:f j=f k
        ·have He:=zY he;have e0:(f j == f k)=true:=(by simp[he]);clear he;go_wp2
         go_quiet (fail)
         go_wp2;go_ret;exact⟨zG.no fun h=>h.2.2 k cA j jA He.out,zg dA _⟩
        ·have He:=zY he;have e0:(f j == f k)=false:=(by simp[he]);clear he;go_wp2
         go_quiet (fail)
         go_wp2;go_roundw
         case rel=>exact⟨j+1,by omega,by go_num,zo jA gA.out He.out,zg dA _⟩
         case measure=>simp[intOf];omega
       ·obtain rfl:j=k:=(by omega);go_wp2;go_roundw
        case rel=>exact⟨j+1,by omega,by go_num,zo cA fA.out ⟨Hx.out.1,Hx.out.2,Hy.out.1,Hy.out.2⟩,zGI.2 ⟨bA.out,gA.out⟩,dA⟩
        case measure=>simp[intOf];omega
     ·have Hy:=zY hy;clear hy;go_wp2_with (first
       | (go_at_call 137;refine(zBH (f k) 0 199 _).mono ?_;rintro e w1 ⟨⟨t,rfl,ht⟩,rfl⟩;obtain rfl:t=true:=ht.2 Hx.out;clear ht)
       | (go_at_call 145;refine(yX (g k) _).mono ?_;rintro e w2 ⟨⟨t,rfl,ht⟩,rfl⟩;obtain rfl:t=false:=zQ ht Hy.out;clear ht)
       | fail)
      go_wp2;go_ret;exact⟨zG.no fun h=>Hy.out ⟨(h.2.1 k cA).2.2.1,(h.2.1 k cA).2.2.2⟩,hb⟩
    ·have Hx:=zY hx;clear hx;go_wp2_with (first
      | (go_at_call 137;refine(zBH (f k) 0 199 _).mono ?_;rintro e w1 ⟨⟨t,rfl,ht⟩,rfl⟩;obtain rfl:t=false:=zQ ht Hx.out;clear ht)
      | fail)
     go_wp2;go_ret;exact⟨zG.no fun h=>Hx.out ⟨(h.2.1 k cA).1,(h.2.1 k cA).2.1⟩,hb⟩
   ·obtain rfl:k=n:=(by omega);go_wp2;go_ret;exact⟨zG.yes ⟨hn,fA.out,bA.out⟩,hb⟩
 ·have nA:(200:Int)<(n:Int):=(by omega);go_enter Tryz.func185,Tryz.ntmps185;go_wp2;go_ret;exact⟨zG.no fun h=>hn h.1,Below.refl _ _⟩
theorem zDN(v:Value)(n lo hi:Nat)(f g:Nat->Int)(x y:Int)(w:World)(h1:zU w lo hi v n f g) :
  Calls Tryz.prog 142 #[v,.agg #[.int .i64 x,.int .i64 y]] w fun e w'=>zG (PIn n f g x y) e/\Below w.heap.size w w':=by
 have Hp:=zY h1;obtain⟨m1,a,c,rfl,mc,_⟩:=id h1;unfold maxLen at m1;clear h1;have ha:=zC w (.cells #[.int .i64 x,.int .i64 y] 61);have HB:=zY (zc.zRL w (.int .i64 x) (.int .i64 y) 61);go_enter Tryz.func142,Tryz.ntmps142;go_wp2
 go_loopw [5] (fun i wr=>∃k:Nat,k<=n/\i = .int .i64 k/\¬PIn k f g x y/\zc wr w.heap.size (.int .i64 x) (.int .i64 y)/\Below w.heap.size w wr) (fun i _=>n - (intOf i).toNat)
 case atStart=>exact⟨0,Nat.zero_le _,rfl,fun ⟨j,hj,_⟩=>absurd hj (Nat.not_lt_zero _),HB.out,ha⟩
 case round=>
  obtain⟨k,hk,rfl,dA,hX,hb⟩:=hrel;have bA:=zY dA;have HX:=zY hX;clear dA hX;obtain⟨⟨x0,x1⟩,⟨x2,x3⟩⟩:=HX.out;by_cases cA:k<n
  ·have eA:(k:Int)<(n:Int):=(by omega);obtain⟨b,off,rfl,q0,q1⟩:=(Hp.out.zRJ hb).zRN cA;by_cases he:f k=x/\g k=y
   ·have H:=zY (show PIn n f g x y from⟨k,cA,he.1,he.2⟩);rw[he.1]at q0;rw[he.2]at q1;clear he;go_wp2
    go_quiet (fail)
    go_wp2;go_ret;exact⟨zG.yes H.out,zg hb _⟩
   ·have H:=zY he;have e0:(f k == x)=false\/(f k == x)=true/\(g k == y)=false:=by
     by_cases h:f k=x
     ·right;refine⟨by simp[h],?_⟩;have:g k≠y:=fun h'=>he ⟨h,h'⟩
      simp[this]
     ·left;simp[h]
    clear he;rcases e0 with e0 | ⟨e0,e1⟩
    all_goals
     go_wp2
     go_quiet (fail)
     go_wp2;go_roundw
     case rel=>
      refine⟨k+1,by omega,by go_num,?_,HX.out.zRJ (zg (Below.refl _ _) _),zg hb _⟩;rintro⟨j,hj,aA⟩;by_cases e:j=k
      ·subst e;exact H.out ⟨aA.1,aA.2⟩
      ·exact bA.out ⟨j,by omega,aA⟩
     case measure=>simp[intOf];omega
  ·obtain rfl:k=n:=(by omega);go_wp2;go_ret;exact⟨zG.no bA.out,hb⟩
theorem zGM(v v':Value)(n lo hi n' lo' hi':Nat)(f g f' g':Nat->Int)(w:World)(h1:zU w lo hi v n f g)(h2:zU w lo' hi' v' n' f' g') :
  Calls Tryz.prog 143 #[v,v'] w fun e w'=>zG (zEU n f g n' f' g') e/\Below w.heap.size w w':=by
 have Hp:=zY h1;have iA:=zY h2;obtain⟨m1,a,c,rfl,mc,_⟩:=id h1;obtain⟨m2,a',c',rfl,oA,_⟩:=id h2;unfold maxLen at m1 m2;clear h1 h2;by_cases ho:qx n f g
 ·have Ho:=zY ho;clear ho;by_cases fA:qx n' f' g'
  ·have bA:=zY fA;clear fA;go_enter Tryz.func143,Tryz.ntmps143;go_wp2_with fail;refine(zAB _ n lo hi f g _ Hp.out).mono ?_;rintro e w1 ⟨⟨t,rfl,ht⟩,aA⟩;obtain rfl:t=true:=ht.2 Ho.out;clear ht;go_wp2_with fail;refine(zAB _ n' lo' hi' f' g' _ (iA.out.zRJ aA)).mono ?_;rintro e w2 ⟨⟨t,rfl,ht⟩,cA⟩;obtain rfl:t=true:=ht.2 bA.out;have gA:=zA aA cA;clear ht aA cA;by_cases jA:n=n'
   ·subst jA;have e0:((n:Int) != (n:Int))=false:=(by simp);go_wp2
    go_loopw [5] (fun i wr=>∃k:Nat,k<=n/\i = .int .i64 k/\(∀i,i<k->PIn n f' g' (f i) (g i))/\Below w.heap.size w wr) (fun i _=>n - (intOf i).toNat)
    case atStart=>exact⟨0,Nat.zero_le _,rfl,fun j hj=>absurd hj (Nat.not_lt_zero _),gA⟩
    case round=>
     obtain⟨k,hk,rfl,dA,hb⟩:=hrel;have eA:=zY dA;clear dA;by_cases kA:k<n
     ·have nA:(k:Int)<(n:Int):=(by omega);obtain⟨b,off,rfl,q0,q1⟩:=(Hp.out.zRJ hb).zRN kA;go_wp2_with fail;refine(zDN _ n lo' hi' f' g' (f k) (g k) _ (iA.out.zRJ hb)).mono ?_;rintro e w3 ⟨⟨t,rfl,ht⟩,lA⟩;have mA:=zA hb lA;clear lA;by_cases hi':PIn n f' g' (f k) (g k)
      ·have Hi:=zY hi';obtain rfl:t=true:=ht.2 hi';clear ht hi';go_wp2;go_roundw
       case rel=>exact⟨k+1,by omega,by go_num,zo kA eA.out Hi.out,mA⟩
       case measure=>simp[intOf];omega
      ·have Hi:=zY hi';obtain rfl:t=false:=zQ ht hi';clear ht hi';go_wp2;go_ret;exact⟨zG.no fun h=>Hi.out (h.2.2.2 k kA),mA⟩
     ·obtain rfl:k=n:=(by omega);go_wp2;go_ret;exact⟨zG.yes ⟨Ho.out,bA.out,rfl,eA.out⟩,hb⟩
   ·have e0:((n:Int) != (n':Int))=true:=(by simp;omega);have Hn:=zY jA;clear jA;go_wp2;go_ret;exact⟨zG.no fun h=>Hn.out h.2.2.1,gA⟩
  ·have bA:=zY fA;clear fA;go_enter Tryz.func143,Tryz.ntmps143;go_wp2_with fail;refine(zAB _ n lo hi f g _ Hp.out).mono ?_;rintro e w1 ⟨⟨t,rfl,ht⟩,aA⟩;obtain rfl:t=true:=ht.2 Ho.out;clear ht;go_wp2_with fail;refine(zAB _ n' lo' hi' f' g' _ (iA.out.zRJ aA)).mono ?_;rintro e w2 ⟨⟨t,rfl,ht⟩,cA⟩;obtain rfl:t=false:=zQ ht bA.out;have gA:=zA aA cA;clear ht aA cA;go_wp2;go_ret;exact⟨zG.no fun h=>bA.out h.2.1,gA⟩
 ·have Ho:=zY ho;clear ho;go_enter Tryz.func143,Tryz.ntmps143;go_wp2_with fail;refine(zAB _ n lo hi f g _ Hp.out).mono ?_;rintro e w1 ⟨⟨t,rfl,ht⟩,aA⟩;obtain rfl:t=false:=zQ ht Ho.out;clear ht;go_wp2;go_ret;exact⟨zG.no fun h=>Ho.out h.1,aA⟩
theorem s1{α : Type}(l:List α)(i:Nat)(a:α):l.toArray.setIfInBounds i a=(l.set i a).toArray:=List.setIfInBounds_toArray ..
theorem s2{α : Type}(x:α)(l:List α)(a:α):(x :: l).set 0 a=a :: l:=rfl
theorem s3{α : Type}(x:α)(l:List α)(i:Nat)(a:α):(x :: l).set (i+1) a=x :: l.set i a:=rfl
def zMp:List Oper->Nat->Option Oper
 | [],_=>none
 | o :: _,0=>some o
 | _ :: l,n+1=>zMp l n
theorem zJK:∀(l:List Oper) (i:Nat),l[i]?=zMp l i
 | [],_=>rfl
 | _ :: _,0=>rfl
 | _ :: l,n+1=>by simpa[zMp]using zJK l n
theorem zAY{aA:Array Oper}{i:Nat}{o:Oper}(h:zMp aA.toList i=some o):aA[i]?=some o:=by
 rw[<-h,<-zJK,Array.getElem?_toList]
section
variable {P : Program} {md : Region.Mode} {ops : Array Oper} {Q : Exit -> Act -> World -> Prop} {S : World -> Prop}
theorem tk(i:Nat){o:Oper}{v:Value}{bA:Nat}{aA l':Array Bool}{a a':Act}{w:World}(hi:zMp ops.toList i=some o:=by exact rfl)
  (hb:(Region.noSelect ops && (Region.free md ops aA i && (Region.ready md ops aA).contains i))=true:=by kernel_rfl)
  (hw:Region.wanted o (yielded ops a.tmps)=true:=by exact rfl) (hS:S w:=by assumption)
  (hy:∀w,S w->(execOp a.eval o).run P w = .ok (.value v) w:=by(intro w cA;(try dsimp only at cA);go_simp;try with_reducible rfl))
  (hl:aA.setIfInBounds i true=l':=by((try simp only[s1,s2,s3]);exact rfl))
  (ha:a.put o.dst v=a':=by((try simp only[Act.put,s1,s2,s3]);exact rfl))
  (hQ:∀c a w,Q (.panic c) (a.put o.dst v) w->Q (.panic c) a w:=by exact fun _ _ _ h=>h)
  (h:wpAnyH P md ops Q S bA l' a' w):wpAnyH P md ops Q S (bA+1) aA a w:=by
 simp only[Bool.and_eq_true]at hb;subst hl ha;exact wpAnyH_take (zAY hi) hb.1 hb.2.1 hb.2.2 hQ (Or.inl ⟨hw,hy⟩) hS h
theorem ts(i:Nat){o:Oper}{bA:Nat}{aA l':Array Bool}{a a':Act}{w:World}(hi:zMp ops.toList i=some o:=by exact rfl)
  (hb:(Region.noSelect ops && (Region.free md ops aA i && (Region.ready md ops aA).contains i))=true:=by kernel_rfl)
  (hw:Region.wanted o (yielded ops a.tmps)=false:=by exact rfl) (hS:S w:=by assumption)
  (hl:aA.setIfInBounds i true=l':=by((try simp only[s1,s2,s3]);exact rfl))
  (ha:a.put o.dst undef=a':=by((try simp only[Act.put,s1,s2,s3]);exact rfl))
  (hQ:∀c a w,Q (.panic c) (a.put o.dst undef) w->Q (.panic c) a w:=by exact fun _ _ _ h=>h)
  (h:wpAnyH P md ops Q S bA l' a' w):wpAnyH P md ops Q S (bA+1) aA a w:=by
 simp only[Bool.and_eq_true]at hb;subst hl ha;exact wpAnyH_take (zAY hi) hb.1 hb.2.1 hb.2.2 hQ (Or.inr ⟨hw,rfl⟩) hS h
theorem rd(rs:List Nat){bA:Nat}{aA:Array Bool}{a:Act}{w:World}(h:AllReadyH P md ops Q S bA aA a w rs)
  (hr:Region.ready md ops aA=rs:=by kernel_rfl) (cA:rs≠[]:=by simp):wpAnyH P md ops Q S (bA+1) aA a w:=wpAnyH_ready hr cA h
theorem rc{bA:Nat}{aA:Array Bool}{a:Act}{w:World}{i:Nat}{o:Oper}{rs:List Nat}
  (h:∀K':Act->World->Prop,Shut (∀a w,S w->(S w->wpAnyH P md ops Q S bA (aA.setIfInBounds i true) a w)->K' a w)->if Region.wanted o (yielded ops a.tmps)=true then Oper.wp P o a w K' Q else K' (a.put o.dst undef) w)
  (hs:AllReadyH P md ops Q S bA aA a w rs) (ho:zMp ops.toList i=some o:=by exact rfl):AllReadyH P md ops Q S bA aA a w (i :: rs):=AllReadyH.cons (zAY ho) h hs
end
end Go.Proofs.YtmgeglgboadfiaaGreatDoor
