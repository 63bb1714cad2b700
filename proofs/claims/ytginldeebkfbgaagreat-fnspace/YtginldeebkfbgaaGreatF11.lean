/- A part of the proof. -/
import Derived.Deep.RegionHeld
import Derived.Test.YtginldeebkfbgaaGreatF10
import Derived.Deep.RegionWith
import Derived.Laws.OwnMore
import Derived.Lib.SliceRun
import Derived.Deep.AppendLies
import Derived.Deep.DeepCutAuto
set_option linter.unusedVariables false
set_option maxRecDepth 20000
set_option maxHeartbeats 4000000
namespace Go.Proofs.YtginldeebkfbgaaGreat
theorem s1{α : Type}(l:List α)(i:Nat)(a:α):l.toArray.setIfInBounds i a=(l.set i a).toArray:=List.setIfInBounds_toArray ..
theorem s2{α : Type}(x:α)(l:List α)(a:α):(x :: l).set 0 a=a :: l:=rfl
theorem s3{α : Type}(x:α)(l:List α)(i:Nat)(a:α):(x :: l).set (i+1) a=x :: l.set i a:=rfl
def zSk:List Oper->Nat->Option Oper
 | [],_=>none
 | o :: _,0=>some o
 | _ :: l,n+1=>zSk l n
theorem zOD:∀(l:List Oper) (i:Nat),l[i]?=zSk l i
 | [],_=>rfl
 | _ :: _,0=>rfl
 | _ :: l,n+1=>by simpa[zSk]using zOD l n
theorem zMH{aA:Array Oper}{i:Nat}{o:Oper}(h:zSk aA.toList i=some o):aA[i]?=some o:=by
 rw[<-h,<-zOD,Array.getElem?_toList]
section
variable {P : Program} {md : Region.Mode} {ops : Array Oper} {Q : Exit -> Act -> World -> Prop} {S : World -> Prop}
theorem tk(i:Nat){o:Oper}{v:Value}{bA:Nat}{aA l':Array Bool}{a a':Act}{w:World}(hi:zSk ops.toList i=some o:=by exact rfl)
  (hb:(Region.noSelect ops && (Region.free md ops aA i && (Region.ready md ops aA).contains i))=true:=by kernel_rfl)
  (hw:Region.wanted o (yielded ops a.tmps)=true:=by exact rfl) (hS:S w:=by assumption)
  (hy:∀w,S w->(execOp a.eval o).run P w = .ok (.value v) w:=by(intro w cA;(try dsimp only at cA);go_simp;try with_reducible rfl))
  (hl:aA.setIfInBounds i true=l':=by((try simp only[s1,s2,s3]);exact rfl))
  (ha:a.put o.dst v=a':=by((try simp only[Act.put,s1,s2,s3]);exact rfl))
  (hQ:∀c a w,Q (.panic c) (a.put o.dst v) w->Q (.panic c) a w:=by exact fun _ _ _ h=>h)
  (h:wpAnyH P md ops Q S bA l' a' w):wpAnyH P md ops Q S (bA+1) aA a w:=by
 simp only[Bool.and_eq_true]at hb;subst hl ha;exact wpAnyH_take (zMH hi) hb.1 hb.2.1 hb.2.2 hQ (Or.inl ⟨hw,hy⟩) hS h
theorem ts(i:Nat){o:Oper}{bA:Nat}{aA l':Array Bool}{a a':Act}{w:World}(hi:zSk ops.toList i=some o:=by exact rfl)
  (hb:(Region.noSelect ops && (Region.free md ops aA i && (Region.ready md ops aA).contains i))=true:=by kernel_rfl)
  (hw:Region.wanted o (yielded ops a.tmps)=false:=by exact rfl) (hS:S w:=by assumption)
  (hl:aA.setIfInBounds i true=l':=by((try simp only[s1,s2,s3]);exact rfl))
  (ha:a.put o.dst undef=a':=by((try simp only[Act.put,s1,s2,s3]);exact rfl))
  (hQ:∀c a w,Q (.panic c) (a.put o.dst undef) w->Q (.panic c) a w:=by exact fun _ _ _ h=>h)
  (h:wpAnyH P md ops Q S bA l' a' w):wpAnyH P md ops Q S (bA+1) aA a w:=by
 simp only[Bool.and_eq_true]at hb;subst hl ha;exact wpAnyH_take (zMH hi) hb.1 hb.2.1 hb.2.2 hQ (Or.inr ⟨hw,rfl⟩) hS h
theorem rd(rs:List Nat){bA:Nat}{aA:Array Bool}{a:Act}{w:World}(h:AllReadyH P md ops Q S bA aA a w rs)
  (hr:Region.ready md ops aA=rs:=by kernel_rfl) (cA:rs≠[]:=by simp):wpAnyH P md ops Q S (bA+1) aA a w:=wpAnyH_ready hr cA h
theorem rc{bA:Nat}{aA:Array Bool}{a:Act}{w:World}{i:Nat}{o:Oper}{rs:List Nat}
  (h:∀K':Act->World->Prop,Shut (∀a w,S w->(S w->wpAnyH P md ops Q S bA (aA.setIfInBounds i true) a w)->K' a w)->if Region.wanted o (yielded ops a.tmps)=true then Oper.wp P o a w K' Q else K' (a.put o.dst undef) w)
  (hs:AllReadyH P md ops Q S bA aA a w rs) (ho:zSk ops.toList i=some o:=by exact rfl):AllReadyH P md ops Q S bA aA a w (i :: rs):=AllReadyH.cons (zMH ho) h hs
end
open Go.RowKit
theorem qL{P:Prop}(h:P):Hid P:=h
theorem zZA(w:World)(a0 a1 x0 x1:Value)(t1 t2:TypeId) :
  yG ((w.alloc (.cells #[a0,a1] t1)).alloc (.cells #[x0,x1] t2)) w.heap.size a0 a1/\yG ((w.alloc (.cells #[a0,a1] t1)).alloc (.cells #[x0,x1] t2)) (w.heap.size+1) x0 x1/\
  Below w.heap.size w ((w.alloc (.cells #[a0,a1] t1)).alloc (.cells #[x0,x1] t2))/\((w.alloc (.cells #[a0,a1] t1)).alloc (.cells #[x0,x1] t2)).heap.size=w.heap.size+2:=by
 refine⟨(yG.new w a0 a1 t1).zbd (zD _ _),?_,zA (zD _ _) (zD _ _),by simp⟩;have:=yG.new (w.alloc (.cells #[a0,a1] t1)) x0 x1 t2;rw[World.size_alloc]at this;exact this
def zUM(p:zF)(Low:zN->Prop)(s:zN):Prop:=(∃i,i<8/\¬Nil (zy s i) (qm s i))/\∀i,i<8->Nil (zy s i) (qm s i)\/Low (p.s (zy s i).toNat)
def zIX(p:zF)(L:Int)(Low:zN->Prop):Prop:=∀(v:Value) (lo hi:Nat) (xs xb:Int) (w:World),yJ w lo hi v p.n p.s->yF p xs xb->
 Calls Tryz.prog 99 #[v,.agg #[.int .i64 xs,.int .i64 xb],.int .i64 L] w fun e w'=>zJ (Low (p.s xs.toNat)) e/\Below w.heap.size w w'
theorem zOU(s:zN):zMv (zU s) (fun _=>0)=true↔¬∃i,i<8/\¬Nil (zy s i) (qm s i):=by
 rw[zQI];constructor
 ·rintro h ⟨i,hi,hn⟩;exact hn (h i hi)
 ·intro h i hi;by_cases hn:Nil (zy s i) (qm s i)
  ·exact hn
  ·exact absurd ⟨i,hi,hn⟩ h
theorem zSu(p:zF):zIX p 2 zKQ:=by
 intro v lo hi xs xb w hs hP;have Hs:=qL hs;obtain⟨_,a,c,rfl,_⟩:=id hs;obtain⟨k,rfl⟩:=Int.eq_ofNat_of_zero_le hP.2.1;have hk:k<p.n:=by have:=hP.2.2.1;omega
 have dA:(k:Int)<(p.n:Int):=by omega
 have ha:=zD w (.cells #[.int .i64 (k:Int),.int .i64 xb] 44);obtain⟨⟨x0,x1⟩,⟨x2,x3⟩⟩:=yG.new w (.int .i64 (k:Int)) (.int .i64 xb) 44;obtain⟨b,off,ka,kc,rfl,cA⟩:=(Hs.out.zbd ha).cells hk;have HC:=qL cA;obtain⟨q0,q1,q2,_⟩:=cA;clear hs hP;go_enter Tryz.func99,Tryz.ntmps99;go_wp2_with fail;have aA:=zD (w.alloc (.cells #[.int .i64 (k:Int),.int .i64 xb] 44)) (.cells #[.int .i64 (p.s k).birth,.slice ka (p.s k).kn kc,.string (p.s k).data] 48);refine(zLm _ _ _ lo hi (p.s k) _ (HC.out.slot.zbd aA)).mono ?_;rintro e w1 ⟨⟨t,rfl,ht⟩,bA⟩;have hB:=zA (zA ha aA) bA;have HT:=qL ht;clear ht bA;go_wp2;go_ret;refine⟨⟨t,rfl,?_⟩,hB⟩;rw[Int.toNat_natCast];exact HT.out
theorem zMb(p:zF)(L:Int)(jA:zN->Prop)(hR:zf p)(hL:0<=L/\L<2)(eA:zIX p (L+1) jA):zIX p L (zUM p jA):=by
 intro v lo hi xs xb w hs hP;have iA:=qL eA;have HR:=qL hR;have Hs:=qL hs;have HP:=qL hP;have Hf:=qL (zAT hR hP);obtain⟨_,a,c,rfl,_⟩:=id hs;obtain⟨k,rfl⟩:=Int.eq_ofNat_of_zero_le hP.2.1;rw[Int.toNat_natCast]at Hf;have hk:k<p.n:=by have:=hP.2.2.1;omega
 have eB:(k:Int)<(p.n:Int):=by omega
 have cB:(L == 2)=false:=by simp;omega
 have ha:=zD w (.cells #[.int .i64 (k:Int),.int .i64 xb] 44);obtain⟨⟨x0,x1⟩,⟨x2,x3⟩⟩:=yG.new w (.int .i64 (k:Int)) (.int .i64 xb) 44;obtain⟨b,off,ka,kc,rfl,rA⟩:=(Hs.out.zbd ha).cells hk;have HC:=qL rA;obtain⟨q0,q1,q2,_⟩:=rA;clear hs hP eA hR;go_enter Tryz.func99,Tryz.ntmps99;go_wp2_with fail;have kA:=zD (w.alloc (.cells #[.int .i64 (k:Int),.int .i64 xb] 44)) (.cells #[.int .i64 (p.s k).birth,.slice ka (p.s k).kn kc,.string (p.s k).data] 48);refine(zGA _ _ _ lo hi (p.s k) _ (HC.out.slot.zbd kA) (zHP Hf.out)).mono ?_;rintro e w1 ⟨rfl,oA⟩;have hB:=zA (zA ha kA) oA;clear oA ha kA x0 x1 x2 x3 q0 q1 q2 HC;have aA:Hid ((Tryz.prog.info? 155).map (·.size)=some (yP (p.s k)).size):=by
  show _=_;rw[yP,zAN];exact zIn
 have tA:Hid ((#[Value.int .i64 0,Value.int .i64 0,Value.int .i64 0,Value.int .i64 0,Value.int .i64 0,Value.int .i64 0,Value.int .i64 0,Value.int .i64 0,Value.int .i64 0,Value.int .i64 0,Value.int .i64 0,Value.int .i64 0,Value.int .i64 0,Value.int .i64 0,Value.int .i64 0,Value.int .i64 0]:Array Value)=zAQ (fun _=>0)):=rfl;have vA:∀w,(binOp .eql 155 (.agg (yP (p.s k))) (.agg #[Value.int .i64 0,Value.int .i64 0,Value.int .i64 0,Value.int .i64 0,Value.int .i64 0,Value.int .i64 0,Value.int .i64 0,Value.int .i64 0,Value.int .i64 0,Value.int .i64 0,Value.int .i64 0,Value.int .i64 0,Value.int .i64 0,Value.int .i64 0,Value.int .i64 0,Value.int .i64 0])).run Tryz.prog w = .ok (.bool (zMv (zU (p.s k)) (fun _=>0))) w:=fun w=>zTJ (zU (p.s k)) (fun _=>0) w
 have dA:(w1.alloc (.cells (yP (p.s k)) 155)).heap[w1.heap.size]?=some (.cells (yP (p.s k)) 155 (0,0)):=heap_alloc_last _ _;have HK:=qL dA;have nA:=zA hB (zD w1 (.cells (yP (p.s k)) 155));clear dA hB;by_cases hz:zMv (zU (p.s k)) (fun _=>0)=true
 ·have HZ:=qL ((zOU _).1 hz);go_wp2_with (first
   | (refine wpList_store_row rfl 155 (.tmp 8) (.tmp 20) rfl w1.heap.size (yP (p.s k)) rfl rfl 155 #[Value.int .i64 0,Value.int .i64 0,Value.int .i64 0,Value.int .i64 0,Value.int .i64 0,Value.int .i64 0,Value.int .i64 0,Value.int .i64 0,Value.int .i64 0,Value.int .i64 0,Value.int .i64 0,Value.int .i64 0,Value.int .i64 0,Value.int .i64 0,Value.int .i64 0,Value.int .i64 0] (heap_alloc_last _ _) aA.out (by rw[yP,zAN];rfl) (zEV _) ?_;rw[World.setRow_alloc_new])
   | (refine wpList_load_row rfl 155 (.tmp 8) rfl w1.heap.size rfl 155 (yP (p.s k)) (0,0) _ HK.out zP1 rfl aA.out ?_))
  go_ret;exact⟨zJ.no fun h=>HZ.out (by rw[Int.toNat_natCast]at h;exact h.1),nA⟩
 ·have HZ:Hid (∃i,i<8/\¬Nil (zy (p.s k) i) (qm (p.s k) i)):=by
   by_cases h:∃i,i<8/\¬Nil (zy (p.s k) i) (qm (p.s k) i)
   ·exact h
   ·exact absurd ((zOU _).2 h) hz
  have fB:zMv (zU (p.s k)) (fun _=>0)=false:=(by simpa using hz);clear hz;go_wp2_with (first
   | (refine wpList_store_row rfl 155 (.tmp 8) (.tmp 20) rfl w1.heap.size (yP (p.s k)) rfl rfl 155 #[Value.int .i64 0,Value.int .i64 0,Value.int .i64 0,Value.int .i64 0,Value.int .i64 0,Value.int .i64 0,Value.int .i64 0,Value.int .i64 0,Value.int .i64 0,Value.int .i64 0,Value.int .i64 0,Value.int .i64 0,Value.int .i64 0,Value.int .i64 0,Value.int .i64 0,Value.int .i64 0] (heap_alloc_last _ _) aA.out (by rw[yP,zAN];rfl) (zEV _) ?_;rw[World.setRow_alloc_new])
   | (refine wpList_load_row rfl 155 (.tmp 8) rfl w1.heap.size rfl 155 (yP (p.s k)) (0,0) _ HK.out zP1 rfl aA.out ?_))
  have gB:w1.heap.size<(w1.alloc (.cells (yP (p.s k)) 155)).heap.size:=by rw[World.size_alloc];exact Nat.lt_succ_self _
  go_loopw [24] (fun i wr=>∃j:Nat,j<=8/\i = .int .i64 j/\(∀m,m<j->Nil (zy (p.s k) m) (qm (p.s k) m)\/jA (p.s (zy (p.s k) m).toNat))/\wr.heap[w1.heap.size]?=some (.cells (yP (p.s k)) 155 (0,0))/\Below w.heap.size w wr) (fun i _=>8 - (intOf i).toNat)
  case atStart=>exact⟨0,Nat.zero_le _,rfl,fun m hm=>absurd hm (Nat.not_lt_zero _),HK.out,nA⟩
  case round=>
   obtain⟨j,hj,rfl,cA,hK,hb⟩:=hrel;have bA:=qL cA;have fA:=qL hK;have mA:w1.heap.size<wr.heap.size:=(Array.getElem?_eq_some_iff.1 hK).1;clear cA hK;by_cases gA:j<8
   ·have bB:(j:Int)<8:=(by omega);obtain⟨y0,y1⟩:=zL (i:=j*2) fA.out (zDT (zU (p.s k)) (by omega));obtain⟨y2,y3⟩:=zL (i:=j*2+1) fA.out (zDT (zU (p.s k)) (by omega));by_cases hn:Nil (zy (p.s k) j) (qm (p.s k) j)
    ·have HN:=qL hn;rw[show zU (p.s k) (j*2)=0 from hn.1]at y0;rw[show zU (p.s k) (j*2+1)=0 from hn.2]at y2;clear hn;go_wp2;go_roundw
     case rel=>exact⟨j+1,by omega,by go_num,qi (n:=8) gA bA.out (Or.inl HN.out),fA.out,hb⟩
     case measure=>simp[intOf];omega
    ·have HN:=qL hn;have aB:=qL (zCi Hf.out gA hn).1;have e0:(zU (p.s k) (j*2) == 0)=false\/(zU (p.s k) (j*2) == 0)=true/\(zU (p.s k) (j*2+1) == 0)=false:=by
      by_cases h:zU (p.s k) (j*2)=0
      ·right;refine⟨by simp[h],?_⟩;have:zU (p.s k) (j*2+1)≠0:=fun h'=>hn ⟨h,h'⟩
       simp[this]
      ·left;simp[h]
     clear hn;rcases e0 with e0 | ⟨e0,e1⟩
     all_goals
      go_wp2_with fail;refine(iA.out _ lo hi (zU (p.s k) (j*2)) (zU (p.s k) (j*2+1)) _ (Hs.out.zbd hb) aB.out).mono ?_;rintro e w2 ⟨⟨t,rfl,ht⟩,lA⟩;have HT:=qL ht;have sA:=qL ((lA.block _ mA).trans fA.out);have pA:=zA hb lA;clear ht lA y0 y1 y2 y3;cases t
      ·go_wp2;go_ret;refine⟨zJ.no fun h=>?_,pA⟩;rw[Int.toNat_natCast]at h;rcases h.2 j gA with h1 | h1
       ·exact HN.out h1
       ·exact absurd (HT.out.2 h1) (by simp)
      ·go_wp2;go_roundw
       case rel=>exact⟨j+1,by omega,by go_num,qi (n:=8) gA bA.out (Or.inr (HT.out.1 trivial)),sA.out,pA⟩
       case measure=>simp[intOf];omega
   ·obtain rfl:j=8:=(by omega);go_wp2;go_ret;exact⟨zJ.yes (by rw[Int.toNat_natCast];exact⟨HZ.out,bA.out⟩),hb⟩
theorem zSt(p:zF)(hR:zf p):zIX p 1 (zOe p):=zMb p 1 zKQ hR (by omega) (zSu p)
theorem zMa(p:zF)(hR:zf p):zIX p 0 (zOd p):=zMb p 0 (zOe p) hR (by omega) (zSt p hR)
def kc(f g:Nat->Int):Nat->List Value
 | 0=>[]
 | k+1=>kc f g k ++ [.int .i64 (f k),.int .i64 (g k)]
theorem zKe{P:Program}{w:World}(base:Nat)(t ty e:TypeId)(i:TypeInfo)(size c:Nat)(ao:Option Addr)(ht:P.underlying t=some (.slice e))(hi:P.info? e=some i)
  (v:Value) (n:Nat) (xs:List Value) (aA:w.ownsRow base e size v n xs) :
  (Builtin.append_ #[t,t] ty #[v,.slice ao 0 c]).run P w = .ok v w:=by
 rcases aA.2 with⟨rfl,rfl⟩ | ⟨g,cap,cA,rfl,_,_,bA,_⟩
 ·cases ao<;>simp[Builtin.append_,run_underlying ht,sizeOf,typeInfo,hi,Builtin.lenOf,Builtin.firstCells,loadCells,loadCellsFrom]
 ·cases ao<;>simp[Builtin.append_,run_underlying ht,sizeOf,typeInfo,hi,Builtin.lenOf,Builtin.firstCells,bA,storeCells,loadCells,loadCellsFrom]
theorem zIM{P:Program}{w:World}{cA:Array Oper}{rest:List Oper}{o:Oper}{a:Act}{Q:Exit->Act->World->Prop}(dA:o.guard=none)(s x:Operand)(t:TypeId)
  (ho:o.op = .call {callee:=.builtin .append,args:=#[s,x],argTypes:=#[t,t]})
  (base:Nat) (e:TypeId) (i:TypeInfo) (size c m:Nat) (ao:Option Addr) (ht:P.underlying t=some (.slice e)) (hi:P.info? e=some i)
  (v:Value) (n:Nat) (xs:List Value) (hs:a.eval s=v) (aA:w.ownsRow base e size v n xs) (hm:m=0) (hx:a.eval x = .slice ao m c)
  (h:wpList P cA Q rest (a.put o.dst v) w):wpList P cA Q (o :: rest) a w:=by
 subst hm;refine wpList_plain dA fun K hK=>?_
 have bA:=zKe (P:=P) (w:=w) base t o.type e i size c ao ht hi v n xs aA;unfold Oper.wp;simp[execOp,ho,resolve,invoke,builtin,hs,hx,bA,Result.andThen];exact hK _ _ h
theorem zWL:(Tryz.prog.info? 44).map (fun i=>(i.zero,i.size,i.bytes))=some (some (.agg #[.int .i64 0,.int .i64 0]),2,16):=by kernel_rfl
def sc(f:Nat->zN)(kv:Nat->Value):Nat->List Value
 | 0=>[]
 | k+1=>sc f kv k ++ [.int .i64 (f k).birth,kv k,.string (f k).data]
theorem yK{w w1:World}(h:Below w.heap.size w w1)(row:Option Nat):w.grownBy w1 row:=⟨h.os,h.tape,h.output,h.size,fun k hk _=>h.block k hk⟩
theorem add_lit(b off j:Nat):(⟨b,off,none⟩:Addr).add j=⟨b,off+j,none⟩:=by unfold Addr.add;split<;>simp_all
theorem zJE{P:Program}{w:World}{jA:Array Oper}{rest:List Oper}{o:Oper}{a:Act}{Q:Exit->Act->World->Prop}(iA:o.guard=none)(s x:Operand)(t:TypeId)
  (ho:o.op = .call {callee:=.builtin .append,args:=#[s,x],argTypes:=#[t,t]})
  (base:Nat) (e:TypeId) (i:TypeInfo) (z:Value) (size bytes:Nat) (ht:P.underlying t=some (.slice e)) (hi:P.info? e=some i) (hz:i.zero=some z)
  (fA:i.size=size) (lA:i.bytes=bytes) (oA:z.cells.size=size) (nA:0<size)
  (v:Value) (n:Nat) (xs:List Value) (hs:a.eval s=v) (dA:w.ownsRow base e size v n xs)
  (ao:Option Addr) (m c:Nat) (aA:List Value) (hx:a.eval x = .slice ao m c) (hl:aA.length=m*size) (h1:∀u∈aA,u.oneCell'=true)
  (bA:0<m->∃b off,ao=some ⟨b,off,none⟩/\∀j u,aA[j]?=some u->w.cell? ⟨b,off+j,none⟩=some u)
  (kA:n+m<=maxLen) (cA:(n+m)*bytes<=140737488355328) (eA:base<=w.heap.size)
  (h:∀v' w',w'.ownsRow base e size v' (n+m) (xs ++ aA)->w.grownBy w' v.ownBlock->(m=0->v'=v)->wpList P jA Q rest (a.put o.dst v') w'):wpList P jA Q (o :: rest) a w:=by
 by_cases gA:m=0
 ·have mA:aA = []:=List.eq_nil_of_length_eq_zero (by rw[hl,gA,Nat.zero_mul]);exact zIM iA s x t ho base e i size c m ao ht hi v n xs hs dA gA hx (h v w (by subst gA;subst mA;simpa using dA) ⟨rfl,rfl,rfl,Nat.le_refl _,fun _ _ _=>rfl⟩ (fun _=>rfl))
 cases ao with
 | none=>
  obtain⟨b,off,ha,_⟩:=bA (by omega);simp at ha
 | some ad=>
  refine wpList_append_own w iA s x t ho base e i z size bytes ht hi hz fA lA oA nA v n xs hs dA ad m c aA hx hl (fun j u hj=>?_) h1 kA cA eA (fun v' w' g1 g2 _=>h v' w' g1 g2 (fun e=>absurd e gA));have h0:0<m:=by
   have:=(List.getElem?_eq_some_iff.1 hj).1;rw[hl]at this;rcases Nat.eq_zero_or_pos m with hm | hm
   ·rw[hm,Nat.zero_mul]at this;omega
   ·exact hm
  obtain⟨b,off,ha,hc⟩:=bA h0;simp only[Option.some.injEq]at ha;subst ha;rw[add_lit];exact hc j u hj
theorem zXR{w:World}{B B' e size n:Nat}{v:Value}{xs:List Value}(h:w.ownsRow B' e size v n xs)(hB:B<=B'):w.ownsRow B e size v n xs:=
 ⟨h.1,h.2.imp id (fun ⟨g,cap,cur,a,b,c⟩=>⟨g,cap,cur,a,Nat.le_trans hB b,c⟩)⟩
def pcl:List (Int×Int)->List Value
 | []=>[]
 | x :: l=>.int .i64 x.1 :: .int .i64 x.2 :: pcl l
theorem zT2:∀l,(pcl l).length=l.length*2
 | []=>rfl
 | x :: l=>by simp[pcl,zT2 l];omega
theorem zGO:∀l m,pcl (l ++ m)=pcl l ++ pcl m
 | [],m=>rfl
 | x :: l,m=>by simp[pcl,zGO l m]
theorem zT3:∀l,∀u∈pcl l,u.oneCell'=true
 | [],u,hu=>by simp[pcl]at hu
 | x :: l,u,hu=>by
  simp only[pcl,List.mem_cons]at hu;rcases hu with rfl | rfl | hu
  ·rfl
  ·rfl
  ·exact zT3 l u hu
theorem zT1:∀(l:List (Int×Int)) i,i<l.length->(pcl l)[i*2]?=some (.int .i64 (l.getD i (0,0)).1)/\(pcl l)[i*2+1]?=some (.int .i64 (l.getD i (0,0)).2):=by
 intro l
 induction l with
 | nil=>intro i hi;simp at hi
 | cons x l ih=>
  intro i hi;cases i with
  | zero=>exact⟨rfl,rfl⟩
  | succ i=>
   have:=ih i (by simpa using hi);rw[show(i+1)*2=i*2+1+1 by omega];simpa[pcl]using this
def zi(l:List (Int×Int))(i:Nat):Int:=(l.getD i (0,0)).1
def zu(l:List (Int×Int))(i:Nat):Int:=(l.getD i (0,0)).2
theorem zIo:(Tryz.prog.info? 44).map (fun i=>(i.zero,i.size,i.bytes))=some (some (.agg #[.int .i64 0,.int .i64 0]),2,16):=by kernel_rfl
theorem zCS{w w1:World}(h:Below w.heap.size w w1)(row:Option Nat):w.grownBy w1 row:=⟨h.os,h.tape,h.output,h.size,fun k hk _=>h.block k hk⟩
def zBS(w:World)(base:Nat)(v:Value)(l:List (Int×Int)):Prop:=w.ownsRow base 44 2 v l.length (pcl l)
theorem zBS.zbd{w w1:World}{base:Nat}{v:Value}{l:List (Int×Int)}(h:zBS w base v l)(hb:Below w.heap.size w w1):zBS w1 base v l:=
 h.kept (zCS hb none) (by cases v.ownBlock<;>simp)
theorem zBS.turned{w w1:World}{base:Nat}{v:Value}{l:List (Int×Int)}{row:Option Nat}(h:zBS w base v l)(hg:w.grownBy w1 row)(aA:∀q,v.ownBlock=some q->row≠some q):zBS w1 base v l:=
 h.kept hg (by
  cases hv:v.ownBlock with
  | none=>simp
  | some q=>exact Or.inr (fun e=>aA q hv e.symm))
theorem zBS.nil(w:World)(base:Nat):zBS w base (.slice none 0 0) []:=World.ownsRow_nil _ _ _ _
theorem zBS.mono{w:World}{base aA:Nat}{v:Value}{l:List (Int×Int)}(h:zBS w base v l)(hb:aA<=base):zBS w aA v l:=by
 refine⟨h.1,h.2.imp id ?_⟩;rintro⟨g,cap,bA,e,h1,h2⟩;exact⟨g,cap,bA,e,Nat.le_trans hb h1,h2⟩
theorem zBS.put{w:World}{base b o:Nat}{v:Value}{l:List (Int×Int)}(h:zBS w base v l)(hb:b<base)(u:Value):zBS (w.setCell ⟨b,o,none⟩ u) base v l:=by
 refine⟨h.1,h.2.imp id ?_⟩;rintro⟨g,cap,aA,e,h1,h2,h3⟩;exact⟨g,cap,aA,e,h1,(Below.heap_setCell _ _ _ _ (fun e=>by have:g=b:=e;omega)).trans h2,h3⟩
theorem zBS.lt{w:World}{base:Nat}{v:Value}{l:List (Int×Int)}(h:zBS w base v l){q:Nat}(hq:v.ownBlock=some q):base<=q/\q<w.heap.size:=by
 rcases h.2 with⟨rfl,_⟩ | ⟨g,cap,aA,rfl,hb,hg,_⟩
 ·simp[Value.ownBlock]at hq
 ·simp only[Value.ownBlock,Option.some.injEq]at hq;subst hq;exact⟨hb,(Array.getElem?_eq_some_iff.1 hg).1⟩
theorem zBS.own{w:World}{base:Nat}{v:Value}{l:List (Int×Int)}(h:zBS w base v l)(hm:l.length<=maxLen):∃b,zOb w b v l.length (zi l) (zu l)/\(0<l.length->v.ownBlock=some b/\base<=b/\b<w.heap.size):=by
 by_cases h0:0<l.length
 ·obtain⟨g,cap,rfl,bA,hb,cA,aA⟩:=zFf h h0;refine⟨g,⟨hm,_,cap,rfl,bA,fun _=>⟨0,rfl,fun i hi=>?_⟩⟩,fun _=>⟨rfl,hb,cA⟩⟩;rw[Nat.zero_add];exact⟨aA _ _ (zT1 l i hi).1,aA _ _ (zT1 l i hi).2⟩
 ·obtain⟨a,cap,rfl,bA⟩:=qo h;exact⟨0,⟨hm,a,cap,rfl,bA,fun h=>absurd h h0⟩,fun h=>absurd h h0⟩
def zaC(l:List (Int×Int))(w:World)(e:Ending)(w':World):Prop:=∃v,e = .returned v/\w'.ownsRow w.heap.size 44 2 v l.length (pcl l)/\Below w.heap.size w w'
def zCw(F:Int->Int->List (Int×Int))(s:zN):Nat->List (Int×Int)
 | 0=>[]
 | k+1=>zCw F s k ++ F (zy s k) (qm s k)
theorem zJS(s:zN):∀k,zCw one s k=kidsUp (zy s) (qm s) k
 | 0=>rfl
 | k+1=>by rw[zCw,kidsUp,zJS s k]
theorem zJR(p:zF)(s:zN):∀k,zCw (zGK p) s k=zCY p s k
 | 0=>rfl
 | k+1=>by rw[zCw,zCY,zJR p s k]
theorem zNX{F:Int->Int->List (Int×Int)}(hF:∀a b,(F a b).length<=9)(s:zN):∀k,(zCw F s k).length<=9*k
 | 0=>Nat.le_refl _
 | k+1=>by
  have:=zNX hF s k;have:=hF (zy s k) (qm s k);rw[zCw,List.length_append];omega
def zGa(p:zF)(F:Int->Int->List (Int×Int))(xs xb:Int):List (Int×Int):=if Nil xs xb then [] else(xs,xb) :: zCw F (p.s xs.toNat) 8
def zIV(p:zF)(L:Int)(F:Int->Int->List (Int×Int)):Prop:=∀(v:Value) (lo hi:Nat) (xs xb:Int) (w:World),yJ w lo hi v p.n p.s->(Nil xs xb\/yF p xs xb)->
 Calls Tryz.prog 101 #[v,.agg #[.int .i64 xs,.int .i64 xb],.int .i64 L] w (zaC (F xs xb) w)
theorem zRD{w:World}{base n K:Nat}{v:Value}{xs:List Value}{cs:Array Value}(h:w.ownsRow base 44 2 v n xs)(hK:w.heap[K]?=some (.cells cs 155 (0,0))):v.ownBlock≠some K:=by
 intro e;rcases h.2 with⟨rfl,_⟩ | ⟨g,cap,aA,rfl,_,hg,_⟩
 ·simp[Value.ownBlock]at e
 ·simp only[Value.ownBlock,Option.some.injEq]at e;subst e;rw[hK]at hg;simp only[Option.some.injEq,Obj.cells.injEq]at hg;exact absurd hg.2.1 (by decide)
theorem zES{xs xb:Int}(h:¬Nil xs xb):(xs == 0)=false\/(xs == 0)=true/\(xb == 0)=false:=by
 by_cases h0:xs=0
 ·right;refine⟨by simp[h0],?_⟩;have:xb≠0:=fun h'=>h ⟨h0,h'⟩
  simp[this]
 ·left;simp[h0]
theorem zU9(p:zF):zIV p 2 one:=by
 intro v lo hi xs xb w hs hP;obtain⟨_,a,c,rfl,_⟩:=id hs;have ha:=zD w (.cells #[.int .i64 xs,.int .i64 xb] 44);obtain⟨⟨x0,x1⟩,⟨x2,x3⟩⟩:=yG.new w (.int .i64 xs) (.int .i64 xb) 44;have aA:=World.ownsRow_lit (e:=44) (size:=2) (base:=w.heap.size) (w.alloc (.cells #[.int .i64 xs,.int .i64 xb] 44)) #[.int .i64 xs,.int .i64 xb] 1 (by simp) (by unfold maxLen;omega) rfl;rw[World.size_alloc]at aA;have bA:=qL aA;have HB:=qL (zA ha (zD _ (.cells #[.int .i64 xs,.int .i64 xb] 44)));clear aA;by_cases hn:Nil xs xb
 ·have HN:=qL hn;obtain⟨rfl,rfl⟩:=hn;go_enter Tryz.func101,Tryz.ntmps101;go_wp2;go_ret;exact⟨_,rfl,by rw[show one 0 0 = [] from if_pos HN.out];exact World.ownsRow_nil _ _ _ _,ha⟩
 ·have HN:=qL hn;have e0:=zES hn;clear hn;rcases e0 with e0 | ⟨e0,e1⟩
  all_goals
   go_enter Tryz.func101,Tryz.ntmps101;go_wp2;go_ret;exact⟨_,rfl,by rw[show one xs xb = [(xs,xb)] from if_neg HN.out];exact bA.out,HB.out⟩
theorem zOG(p:zF)(L:Int)(F:Int->Int->List (Int×Int))(hR:zf p)(hL:0<=L/\L<2)(hF:∀a b,(F a b).length<=9)(pA:zIV p (L+1) F):zIV p L (zGa p F):=by
 intro v lo hi xs xb w hs hP;have Hs:=qL hs;obtain⟨_,a,c,rfl,_⟩:=id hs;have ha:=zD w (.cells #[.int .i64 xs,.int .i64 xb] 44);obtain⟨⟨x0,x1⟩,⟨x2,x3⟩⟩:=yG.new w (.int .i64 xs) (.int .i64 xb) 44;have fC:(L == 2)=false:=by simp;omega
 clear hs;by_cases hn:Nil xs xb
 ·have HN:=qL hn;obtain⟨rfl,rfl⟩:=hn;go_enter Tryz.func101,Tryz.ntmps101;go_wp2;go_ret;exact⟨_,rfl,by rw[show zGa p F 0 0 = [] from if_pos HN.out];exact World.ownsRow_nil _ _ _ _,ha⟩
 ·have HN:=qL hn;have e0:=zES hn;have tA:yF p xs xb:=hP.resolve_left hn;have Hf:=qL (zAT hR tA);have bB:=qL pA;have HF:=qL hF;obtain⟨k,rfl⟩:=Int.eq_ofNat_of_zero_le tA.2.1;rw[Int.toNat_natCast]at Hf;have hk:k<p.n:=(by have:=tA.2.2.1;omega);have iC:(k:Int)<(p.n:Int):=(by omega);clear hn hP tA pA hR hF;have iA:=World.ownsRow_lit (e:=44) (size:=2) (base:=w.heap.size+1) (w.alloc (.cells #[.int .i64 (k:Int),.int .i64 xb] 44)) #[.int .i64 (k:Int),.int .i64 xb] 1 (by simp) (by unfold maxLen;omega) rfl;rw[World.size_alloc]at iA;have jA:=qL iA;have fB:=zD (w.alloc (.cells #[.int .i64 (k:Int),.int .i64 xb] 44)) (.cells #[.int .i64 (k:Int),.int .i64 xb] 44);have eB:=zA ha fB;have cC:=(yG.new w (.int .i64 (k:Int)) (.int .i64 xb) 44).zbd fB;clear x0 x1 x2 x3 iA ha fB;obtain⟨⟨x0,x1⟩,⟨x2,x3⟩⟩:=cC;obtain⟨b,off,ka,kc,rfl,oB⟩:=(Hs.out.zbd eB).cells hk;have HC:=qL oB;obtain⟨q0,q1,q2,_⟩:=oB;obtain⟨y0,y1⟩:=(yG.new w (.int .i64 (k:Int)) (.int .i64 xb) 44).1;obtain⟨y2,y3⟩:=(yG.new w (.int .i64 (k:Int)) (.int .i64 xb) 44).2;rcases e0 with e0 | ⟨e0,e1⟩
  all_goals
   go_enter Tryz.func101,Tryz.ntmps101;go_wp2_with fail;refine(zGA _ _ _ lo hi (p.s k) _ HC.out.slot (zHP Hf.out)).mono ?_;rintro e w1 ⟨rfl,vA⟩;have kB:=zA eB vA;have eA:=jA.out.kept (yK vA none) (Or.inr (by simp[Value.ownBlock]));have aB:Hid ((Tryz.prog.info? 155).map (·.size)=some (yP (p.s k)).size):=by
    show _=_;rw[yP,zAN];exact zIn
   have nA:(w1.alloc (.cells (yP (p.s k)) 155)).heap[w1.heap.size]?=some (.cells (yP (p.s k)) 155 (0,0)):=heap_alloc_last _ _;have HK:=qL nA;have cB:=qL (eA.alloc (.cells (yP (p.s k)) 155));have sB:=zA kB (zD w1 (.cells (yP (p.s k)) 155));have kC:w.heap.size+2<=w1.heap.size:=(by have:=vA.size;rw[World.size_alloc,World.size_alloc]at this;omega);obtain⟨i0,nB,iB⟩:=Option.map_eq_some_iff.1 zWL;simp only[Prod.mk.injEq]at iB;have HT:=qL (And.intro nB iB);clear vA kB eA nA eB x0 x1 x2 x3 y0 y1 y2 y3 q0 q1 q2 HC jA nB iB;go_wp2_with (first
    | (refine wpList_store_row rfl 155 (.tmp 8) (.tmp 23) rfl w1.heap.size (yP (p.s k)) rfl rfl 155 #[Value.int .i64 0,Value.int .i64 0,Value.int .i64 0,Value.int .i64 0,Value.int .i64 0,Value.int .i64 0,Value.int .i64 0,Value.int .i64 0,Value.int .i64 0,Value.int .i64 0,Value.int .i64 0,Value.int .i64 0,Value.int .i64 0,Value.int .i64 0,Value.int .i64 0,Value.int .i64 0] (heap_alloc_last _ _) aB.out (by rw[yP,zAN];rfl) (zEV _) ?_;rw[World.setRow_alloc_new]))
   go_loopw [7,24] (fun o i wr=>∃(j:Nat) (oa:Option Addr) (oc:Nat),j<=8/\i = .int .i64 j/\o = .slice oa (((k:Int),xb) :: zCw F (p.s k) j).length oc/\wr.ownsRow (w.heap.size+1) 44 2 o (((k:Int),xb) :: zCw F (p.s k) j).length (pcl (((k:Int),xb) :: zCw F (p.s k) j))/\wr.heap[w1.heap.size]?=some (.cells (yP (p.s k)) 155 (0,0))/\Below w.heap.size w wr) (fun _ i _=>8 - (intOf i).toNat)
   case atStart=>exact⟨0,_,_,Nat.zero_le _,rfl,rfl,cB.out,HK.out,sB⟩
   case round=>
    obtain⟨j,oa,oc,hj,rfl,rfl,rA,hK,hb⟩:=hrel;have fA:=qL rA;have sA:=qL hK;have gB:w1.heap.size<wr.heap.size:=(Array.getElem?_eq_some_iff.1 hK).1;have vB:=zNX HF.out (p.s k) j;clear rA hK;by_cases aC:j<8
    ·have bC:(j:Int)<8:=(by omega);obtain⟨y0,y1⟩:=zL (i:=j*2) sA.out (zDT (zU (p.s k)) (by omega));obtain⟨y2,y3⟩:=zL (i:=j*2+1) sA.out (zDT (zU (p.s k)) (by omega));have rB:Hid (Nil (zU (p.s k) (j*2)) (zU (p.s k) (j*2+1))\/yF p (zU (p.s k) (j*2)) (zU (p.s k) (j*2+1))):=by
      by_cases hn:Nil (zy (p.s k) j) (qm (p.s k) j)
      ·exact Or.inl hn
      ·exact Or.inr (zCi Hf.out aC hn).1
     go_wp2_with fail;refine(bB.out _ lo hi (zU (p.s k) (j*2)) (zU (p.s k) (j*2+1)) _ (Hs.out.zbd hb) rB.out).mono ?_;rintro e w2 ⟨v2,rfl,dA,mA⟩;obtain⟨na,nc,rfl,_⟩:=qo dA;have jC:=HF.out (zU (p.s k) (j*2)) (zU (p.s k) (j*2+1));have kA:=qL dA;have cA:=qL (fA.out.kept (yK mA none) (by cases hv:(Value.slice oa (((k:Int),xb) :: zCw F (p.s k) j).length oc).ownBlock<;>simp));have jB:=qL ((mA.block _ gB).trans sA.out);have lB:=zA hb mA;have lC:=mA.size;clear dA mA y0 y1 y2 y3 fA sA;go_wp2_with (first
      | (at_builtin;refine zJE rfl _ _ 41 rfl (w.heap.size+1) 44 i0 (.agg #[.int .i64 0,.int .i64 0]) 2 16 (by kernel_rfl) HT.out.1 HT.out.2.1 HT.out.2.2.1 HT.out.2.2.2 rfl (by decide) (.slice oa (((k:Int),xb) :: zCw F (p.s k) j).length oc) (((k:Int),xb) :: zCw F (p.s k) j).length (pcl (((k:Int),xb) :: zCw F (p.s k) j)) rfl ?c0 na (F (zU (p.s k) (j*2)) (zU (p.s k) (j*2+1))).length nc (pcl (F (zU (p.s k) (j*2)) (zU (p.s k) (j*2+1)))) rfl (zT2 _) (zT3 _) ?c1 ?c3 ?c4 ?c5 ?_))
     case c0=>exact cA.out
     case c1=>
      intro h0;obtain⟨g,cap,e,_,_,_,oA⟩:=zFf kA.out h0;simp only[Value.slice.injEq,true_and]at e;exact⟨g,0,e.1,fun j u hj=>by rw[Nat.zero_add];exact(oA j u hj).1⟩
     case c3=>rw[List.length_cons];unfold maxLen;omega
     case c4=>rw[List.length_cons];omega
     case c5=>omega
     intro v3 w3 bA aA _;have gA:((k:Int),xb) :: zCw F (p.s k) (j+1)=(((k:Int),xb) :: zCw F (p.s k) j) ++ F (zU (p.s k) (j*2)) (zU (p.s k) (j*2+1)):=rfl;have mB:(zCw F (p.s k) j).length+1+(F (zU (p.s k) (j*2)) (zU (p.s k) (j*2+1))).length=(((k:Int),xb) :: zCw F (p.s k) (j+1)).length:=(by rw[gA,List.length_append,List.length_cons]);rw[<-zGO,<-gA,mB]at bA;have pB:=qL ((aA.block _ (by omega) (fun e=>zRD cA.out jB.out e.symm)).trans jB.out);have tB:=lB.grown aA lB.size (fun q hq=>by have:=cA.out.lt q hq;omega);obtain⟨dC,eC,rfl,_⟩:=qo bA;have lA:=qL bA;clear bA aA gA mB;go_wp2;go_roundw
     case rel=>exact⟨j+1,dC,eC,by omega,by go_num,rfl,lA.out,pB.out,tB⟩
     case measure=>simp[intOf];omega
    ·obtain rfl:j=8:=(by omega);go_wp2;go_ret;refine⟨_,rfl,?_,hb⟩;rw[show zGa p F (k:Int) xb=((k:Int),xb) :: zCw F (p.s k) 8 by unfold zGa;rw[if_neg HN.out,Int.toNat_natCast]];exact zXR fA.out (by omega)
theorem zU8(p:zF)(hR:zf p):zIV p 1 (zGK p):=by
 have h:=zOG p 1 one hR (by omega) (fun a b=>by unfold one;split<;>simp) (zU9 p);have e:zGa p one=zGK p:=by
  funext xs xb;unfold zGa zGK zPA;rw[zJS]
 rw[e]at h;exact h
theorem zOF(p:zF)(hR:zf p):zIV p 0 (zH p):=by
 have h:=zOG p 0 (zGK p) hR (by omega) (zQ0 p) (zU8 p hR);have e:zGa p (zGK p)=zH p:=by
  funext xs xb;unfold zGa zH;rw[zJR]
 rw[e]at h;exact h
def zUL(n:Nat)(f g:Nat->Int)(x y:Int):Prop:=∃j,j<n/\f j=x/\g j=y
theorem qk.cellsT{w:World}{lo hi:Nat}{a:Option Addr}{n c:Nat}{f g:Nat->Int}(h:qk w lo hi (.slice a n c) n f g){k:Nat}(hk:k<n):∃b off,a=some ⟨b,off,none⟩/\w.cell? ⟨b,off+k*2,none⟩=some (.int .i64 (f k))/\w.cell? ⟨b,off+k*2+1,none⟩=some (.int .i64 (g k)):=by
 obtain⟨_,a2,c2,hv,_,hx⟩:=h;simp only[Value.slice.injEq,true_and]at hv;obtain⟨rfl,rfl⟩:=hv;obtain⟨b,off,ha,_,_,h3⟩:=hx (by omega);exact⟨b,off,ha,(h3 k hk).1,(h3 k hk).2⟩
theorem qk.take{w:World}{lo hi:Nat}{a:Option Addr}{n c m c':Nat}{f g:Nat->Int}(h:qk w lo hi (.slice a n c) n f g)(hm:m<=n)(hc:m<=c'):qk w lo hi (.slice a m c') m f g:=by
 obtain⟨h0,a2,c2,hv,_,hx⟩:=h;simp only[Value.slice.injEq,true_and]at hv;obtain⟨rfl,rfl⟩:=hv;refine⟨by omega,_,c',rfl,hc,fun h1=>?_⟩;obtain⟨b,off,ha,hl,hh,h3⟩:=hx (by omega);exact⟨b,off,ha,hl,hh,fun i hi=>h3 i (by omega)⟩
theorem zO1(v:Value)(n lo hi:Nat)(f g:Nat->Int)(x y:Int)(w:World)(h1:qk w lo hi v n f g) :
  Calls Tryz.prog 137 #[v,.agg #[.int .i64 x,.int .i64 y]] w fun e w'=>(∃r:Int,e = .returned (.int .i64 r)/\(0<=r↔zUL n f g x y))/\Below w.heap.size w w':=by
 have Hp:=qL h1;obtain⟨m1,a,c,rfl,mc,_⟩:=id h1;unfold maxLen at m1;clear h1;have ha:=zD w (.cells #[.int .i64 x,.int .i64 y] 44);have HB:=qL (yG.new w (.int .i64 x) (.int .i64 y) 44);go_enter Tryz.func137,Tryz.ntmps137;go_wp2
 go_loopw [8] (fun i wr=>∃k:Nat,k<=n/\i = .int .i64 k/\¬zUL k f g x y/\yG wr w.heap.size (.int .i64 x) (.int .i64 y)/\Below w.heap.size w wr) (fun i _=>n - (intOf i).toNat)
 case atStart=>exact⟨0,Nat.zero_le _,rfl,fun ⟨j,hj,_⟩=>absurd hj (Nat.not_lt_zero _),HB.out,ha⟩
 case round=>
  obtain⟨k,hk,rfl,dA,hX,hb⟩:=hrel;have bA:=qL dA;have HX:=qL hX;clear dA hX;obtain⟨⟨x0,x1⟩,⟨x2,x3⟩⟩:=HX.out;by_cases cA:k<n
  ·have eA:(k:Int)<(n:Int):=(by omega);obtain⟨b,off,rfl,q0,q1⟩:=(Hp.out.zbd hb).cellsT cA;by_cases he:x=f k/\y=g k
   ·have H:=qL (show zUL n f g x y from⟨k,cA,he.1.symm,he.2.symm⟩);rw[<-he.1]at q0;rw[<-he.2]at q1;clear he;go_wp2
    go_quiet (fail)
    go_wp2;go_ret;exact⟨⟨_,rfl,⟨fun _=>H.out,fun _=>Int.natCast_nonneg _⟩⟩,zCe hb _⟩
   ·have H:=qL he;have e0:(x == f k)=false\/(x == f k)=true/\(y == g k)=false:=by
     by_cases h:x=f k
     ·right;refine⟨by simp[h],?_⟩;have:y≠g k:=fun h'=>he ⟨h,h'⟩
      simp[this]
     ·left;simp[h]
    clear he;rcases e0 with e0 | ⟨e0,e1⟩
    all_goals
     go_wp2
     go_quiet (fail)
     go_wp2;go_roundw
     case rel=>
      refine⟨k+1,by omega,by go_num,?_,HX.out.zbd (zCe (Below.refl _ _) _),zCe hb _⟩;rintro⟨j,hj,aA⟩;by_cases e:j=k
      ·subst e;exact H.out ⟨aA.1.symm,aA.2.symm⟩
      ·exact bA.out ⟨j,by omega,aA⟩
     case measure=>simp[intOf];omega
  ·obtain rfl:k=n:=(by omega);go_wp2;go_ret;exact⟨⟨-1,rfl,⟨fun h=>absurd h (by omega),fun h=>absurd h bA.out⟩⟩,hb⟩
theorem zGV(v:Value)(n lo hi:Nat)(f g:Nat->Int)(x y:Int)(w:World)(h1:qk w lo hi v n f g) :
  Calls Tryz.prog 104 #[v,.agg #[.int .i64 x,.int .i64 y]] w fun e w'=>zJ (zUL n f g x y) e/\Below w.heap.size w w':=by
 have Hi:=qL h1;obtain⟨m1,a,c,rfl,mc,_⟩:=id h1;clear h1;have ha:=zD w (.cells #[.int .i64 x,.int .i64 y] 44);go_enter Tryz.func104,Tryz.ntmps104;go_wp2_with fail;refine(zO1 _ n lo hi f g x y _ (Hi.out.zbd ha)).mono ?_;rintro e w' ⟨⟨r,rfl,hr⟩,hb⟩;have Hr:=qL hr;have hB:=zA ha hb;clear hr hb;go_wp2;go_ret;exact⟨⟨_,rfl,by simpa using Hr.out⟩,hB⟩
def zRb(p:zF)(n:Nat)(f g:Nat->Int):Prop:=∀i,i<n->¬zUL i f g (f i) (g i)/\¬Has p.hn p.h (f i)
theorem zUQ(v0 v1 v:Value)(lo hi nA mA n:Nat)(p:zF)(f g:Nat->Int)(w:World)(h1:zEE w lo hi v0 v1 p)(h2:qk w nA mA v n f g) :
    Calls Tryz.prog 100 #[.agg #[v0,v1],v] w fun e w'=>zJ (zRb p n f g) e/\Below w.heap.size w w':=by
  have Hp:=qL h1;have Hl:=qL h2;obtain⟨a,c,a',c',rfl,rfl⟩:∃a c a' c',v0 = .slice a p.n c/\v1 = .slice a' p.hn c':=by
    obtain⟨⟨_,a,c,h1,_⟩,⟨_,a',c',h3,_⟩⟩:=h1;exact⟨a,c,a',c',h1,h3⟩
  obtain⟨m1,la,lc,rfl,mc,_⟩:=id h2;unfold maxLen at m1;clear h1 h2;have ha:=zD w (.cells #[.slice a p.n c,.slice a' p.hn c'] 26);have HB:=qL (yG.new w (.slice a p.n c) (.slice a' p.hn c') 26);go_enter Tryz.func100,Tryz.ntmps100;go_wp2
  go_loopw [9] (fun i wr=>∃k:Nat,k<=n/\i = .int .i64 k/\zRb p k f g/\yG wr w.heap.size (.slice a p.n c) (.slice a' p.hn c')/\Below w.heap.size w wr) (fun i _=>n - (intOf i).toNat)
  case atStart=>exact⟨0,Nat.zero_le _,rfl,fun j hj=>absurd hj (Nat.not_lt_zero _),HB.out,ha⟩
  case round=>
    obtain⟨k,hk,rfl,eA,hX,hb⟩:=hrel;have dA:=qL eA;have HX:=qL hX;clear eA hX;by_cases kA:k<n
    · have sA:(k:Int)<(n:Int):=by omega
      have vA:(k:Int)<=(lc:Int):=(by omega);obtain⟨b,off,rfl,q0,q1⟩:=(Hl.out.zbd hb).cellsT kA;have lA:=zD wr (.cells #[.int .i64 (f k),.int .i64 (g k)] 44);have cA:=qL (HX.out.zbd lA);have HV:=qL (yG.new wr (.int .i64 (f k)) (.int .i64 (g k)) 44);have fA:=zA hb lA;have aB:w.heap.size<wr.heap.size:=HX.out.1.lt;have tA:(wr.alloc (.cells #[.int .i64 (f k),.int .i64 (g k)] 44)).heap.size=wr.heap.size+1:=World.size_alloc _ _;go_upto_region 4 with fail;generalize wr.alloc (.cells #[.int .i64 (f k),.int .i64 (g k)] 44)=wx at cA HV fA tA ⊢;clear q0 q1 lA HX;have iA:=qL ((Hl.out.zbd fA).take (m:=k) (c':=lc) (by omega) (by omega));obtain⟨⟨x0,x1⟩,⟨x2,x3⟩⟩:=cA.out;obtain⟨⟨y0,y1⟩,⟨y2,y3⟩⟩:=HV.out;by_cases hh:zUL k f g (f k) (g k)
      · have HH:=qL hh
        clear hh
        first
          | (go_region_with (first
              | (go_at_call 104
                 refine(zGV _ k nA mA f g (f k) (g k) _ ?_).mono ?_
                 (first | exact iA.out | exact iA.out.zbd (Below.refl _ _).drew)
                 rintro e w2 ⟨⟨t2,rfl,gA⟩,bA⟩;obtain rfl:t2=true:=gA.2 HH.out;clear gA;have aA:Below wx.heap.size wx w2:=(by first | exact bA | exact qW bA);obtain⟨⟨k0,_⟩,⟨k1,_⟩⟩:=cA.out.zbd aA;obtain⟨⟨k2,_⟩,⟨k3,_⟩⟩:=HV.out.zbd aA)))
          | fail
        all_goals
          have jA:=zA fA aA;go_wp2;go_ret;exact⟨zJ.no fun h=>(h k kA).1 HH.out,jA⟩
      · have HH:=qL hh
        clear hh;go_region_held3 (fun w'=>w'.cell? ⟨w.heap.size,0,none⟩=some (.slice a p.n c)/\w'.cell? ⟨w.heap.size,1,none⟩=some (.slice a' p.hn c')/\w'.cell? ⟨wr.heap.size,0,none⟩=some (.int .i64 (f k))/\w'.cell? ⟨wr.heap.size,1,none⟩=some (.int .i64 (g k))) (go_keep)
          (first
            | (go_at_call 104
               refine(zGV _ k nA mA f g (f k) (g k) _ ?_).mono ?_
               (first | exact iA.out | exact iA.out.zbd (Below.refl _ _).drew)
               rintro e w2 ⟨⟨t2,rfl,gA⟩,bA⟩;obtain rfl:t2=false:=zAR gA HH.out;clear gA;have aA:Below wx.heap.size wx w2:=(by first | exact bA | exact qW bA);obtain⟨⟨k0,_⟩,⟨k1,_⟩⟩:=cA.out.zbd aA;obtain⟨⟨k2,_⟩,⟨k3,_⟩⟩:=HV.out.zbd aA)
            | (go_at_call 95
               refine(zF1 _ p.hn lo hi p.h (f k) _ ?_).mono ?_;exact(Hp.out.2.zbd (zA fA aA));rintro e w3 ⟨⟨t3,rfl,pA⟩,rfl⟩))
        have jA:=zA fA aA;have rA:=qL (cA.out.zbd aA);have oA:=qL pA;clear pA aA bA x0 x1 x2 x3 y0 y1 y2 y3 k0 k1 k2 k3;cases t3
        · go_wp2
          go_roundw
          case rel=>exact⟨k+1,by omega,by go_num,qi (n:=n) kA dA.out ⟨HH.out,fun h=>absurd (oA.out.2 h) (by simp)⟩,rA.out,jA⟩
          case measure=>simp[intOf];omega
        · go_wp2
          go_ret;exact⟨zJ.no fun h=>(h k kA).2 (oA.out.1 trivial),jA⟩
    · obtain rfl:k=n:=by omega
      go_wp2;go_ret;exact⟨zJ.yes dA.out,hb⟩
theorem zXi{w:World}{base:Nat}{v:Value}{l:List (Int×Int)}(hm:l.length<=maxLen)(h:w.ownsRow base 44 2 v l.length (pcl l)):qk w 0 w.heap.size v l.length (fun i=>(l.getD i (0,0)).1) (fun i=>(l.getD i (0,0)).2):=by
  by_cases h0:0<l.length
  · obtain⟨g,cap,rfl,bA,hb,cA,aA⟩:=zFf h h0
    refine⟨hm,_,cap,rfl,bA,fun _=>⟨g,0,rfl,Nat.zero_le _,cA,fun i hi=>?_⟩⟩;have get:∀(l:List (Int×Int)) i,i<l.length->(pcl l)[i*2]?=some (.int .i64 (l.getD i (0,0)).1)/\(pcl l)[i*2+1]?=some (.int .i64 (l.getD i (0,0)).2):=by
      intro l
      induction l with
      | nil=>intro i hi;simp at hi
      | cons x l ih=>
        intro i hi;cases i with
        | zero=>exact⟨rfl,rfl⟩
        | succ i=>
          have:=ih i (by simpa using hi);rw[show(i+1)*2=i*2+1+1 by omega];simpa[pcl]using this
    rw[Nat.zero_add];exact⟨(aA _ _ (get l i hi).1).1,(aA _ _ (get l i hi).2).1⟩
  · obtain⟨a,cap,rfl,bA⟩:=qo h
    exact⟨hm,a,cap,rfl,bA,fun h=>absurd h h0⟩
theorem zRp(p:zF)(l:List (Int×Int)):zRb p l.length (fun i=>(l.getD i (0,0)).1) (fun i=>(l.getD i (0,0)).2)↔zVd p l:=by
  have aA:∀i (h:i<l.length),l.getD i (0,0)=l[i]:=fun i h=>by rw[List.getD_eq_getElem?_getD,List.getElem?_eq_getElem h,Option.getD_some]
  constructor
  · intro h
    refine⟨?_,fun x hx=>?_⟩
    · rw[List.Nodup,List.pairwise_iff_getElem]
      intro i j hi hj bA e;refine(h j hj).1 ⟨i,bA,?_,?_⟩
      · show(l.getD i (0,0)).1=(l.getD j (0,0)).1
        rw[aA i hi,aA j hj,e]
      · show(l.getD i (0,0)).2=(l.getD j (0,0)).2
        rw[aA i hi,aA j hj,e]
    · obtain⟨i,hi,rfl⟩:=List.getElem_of_mem hx
      have:=(h i hi).2;simp only[aA i hi]at this;exact this
  · rintro⟨h1,h2⟩ i hi
    refine⟨?_,?_⟩
    · rintro⟨j,hj,e1,e2⟩
      simp only[aA i hi,aA j (by omega)]at e1 e2;rw[List.Nodup,List.pairwise_iff_getElem]at h1;exact h1 j i (by omega) hi hj (Prod.ext e1 e2)
    · simp only[aA i hi]
      exact h2 _ (List.getElem_mem hi)
theorem zNE(v0 v1:Value)(lo hi:Nat)(p:zF)(xs xb:Int)(w:World)(h1:zEE w lo hi v0 v1 p)(hR:zf p) :
    Calls Tryz.prog 69 #[.agg #[v0,v1],.agg #[.int .i64 xs,.int .i64 xb]] w fun e w'=>zJ (zOi p xs xb) e/\Below w.heap.size w w':=by
  have Hp:=qL h1;have HR:=qL hR;obtain⟨a,c,a',c',rfl,rfl⟩:∃a c a' c',v0 = .slice a p.n c/\v1 = .slice a' p.hn c':=by
    obtain⟨⟨_,a,c,h1,_⟩,⟨_,a',c',h3,_⟩⟩:=h1;exact⟨a,c,a',c',h1,h3⟩
  clear h1 hR;have rA:=zZA w (.slice a p.n c) (.slice a' p.hn c') (.int .i64 xs) (.int .i64 xb) 26 44;by_cases hn:Nil xs xb
  · have HN:=qL hn
    obtain⟨rfl,rfl⟩:=hn;obtain⟨_,_,aA,_⟩:=rA;go_enter Tryz.func69,Tryz.ntmps69;go_wp2;go_ret;exact⟨zJ.yes (Or.inl HN.out),aA⟩
  · have HN:=qL hn
    have e0:=zES hn;clear hn;have iA:Hid (∀t:Bool,(t=true↔yF p xs xb/\zOd p (p.s xs.toNat)/\zVd p (zH p xs xb))->zJ (zOi p xs xb) (.returned (.bool t))):=fun t ht=>⟨t,rfl,ht.trans ⟨fun h=>Or.inr h,fun h=>h.resolve_left HN.out⟩⟩
    go_enter Tryz.func69,Tryz.ntmps69;go_upto_region 1 with fail;generalize (w.alloc (.cells #[.slice a p.n c,.slice a' p.hn c'] 26)).alloc (.cells #[.int .i64 xs,.int .i64 xb] 44)=W at rA ⊢;obtain⟨hB,hX,aA,hz⟩:=rA;have HB:=qL hB;have HX:=qL hX;clear hB hX
    go_cut [7] (fun v wc=>v = .bool false/\W=wc)
    case first=>
      obtain⟨⟨y0,y1⟩,⟨y2,y3⟩⟩:=HX.out;rcases e0 with e0 | ⟨e0,e1⟩
      all_goals
        go_wp2_with fail
        go_meet
        case rel=>exact⟨rfl,rfl⟩
    case rest=>
      obtain⟨rfl,rfl⟩:=hcut;clear e0;obtain⟨⟨x0,x1⟩,⟨x2,x3⟩⟩:=HB.out;obtain⟨⟨y0,y1⟩,⟨y2,y3⟩⟩:=HX.out;go_upto_region 3 with fail;by_cases hP:yF p xs xb
      · have HP:=qL hP
        clear hP;by_cases nA:zOd p (p.s xs.toNat)
        · have jA:=qL nA
          clear nA;go_region_held3 (fun w'=>w'.cell? ⟨w.heap.size,0,none⟩=some (.slice a p.n c)/\w'.cell? ⟨w.heap.size,1,none⟩=some (.slice a' p.hn c')/\w'.cell? ⟨w.heap.size+1,0,none⟩=some (.int .i64 xs)/\w'.cell? ⟨w.heap.size+1,1,none⟩=some (.int .i64 xb)) (go_keep)
            (first
              | (go_at_call 98
                 refine(zJY _ p.n lo hi p.s xs xb _ ?_).mono ?_
                 (first | exact Hp.out.1.zbd aA | exact Hp.out.1.zbd aA.drew)
                 rintro e w1 ⟨⟨t1,rfl,cA⟩,fA⟩;rw[zJZ HR.out]at cA;obtain rfl:t1=true:=cA.2 HP.out;clear cA;have bA:Below W.heap.size W w1:=(by first | exact fA | exact qW fA);obtain⟨⟨k0,_⟩,⟨k1,_⟩⟩:=HB.out.zbd bA;obtain⟨⟨k2,_⟩,⟨k3,_⟩⟩:=HX.out.zbd bA)
              | (go_at_call 99
                 refine(zMa p HR.out _ lo hi xs xb _ ?_ HP.out).mono ?_;exact Hp.out.1.zbd (zA aA bA);rintro e w2 ⟨⟨t2,rfl,lA⟩,pA⟩;obtain rfl:t2=true:=lA.2 jA.out;clear lA;have eA:=zA bA pA;obtain⟨⟨l0,_⟩,⟨l1,_⟩⟩:=HB.out.zbd eA;obtain⟨⟨l2,_⟩,⟨l3,_⟩⟩:=HX.out.zbd eA)
              | (go_at_call 101
                 refine(zOF p HR.out _ lo hi xs xb _ ?_ (Or.inr HP.out)).mono ?_;exact Hp.out.1.zbd (zA aA eA);rintro e w3 ⟨v3,rfl,gA,tA⟩;obtain⟨na,nc,rfl,_⟩:=qo gA;have mA:=zA eA tA;have aB:=zXi (by have:=qc p xs xb;unfold maxLen;omega) gA;obtain⟨⟨m0,_⟩,⟨m1,_⟩⟩:=HB.out.zbd mA;obtain⟨⟨m2,_⟩,⟨m3,_⟩⟩:=HX.out.zbd mA)
              | (go_at_call 100
                 refine(zUQ _ _ _ lo hi 0 w3.heap.size _ p _ _ _ ?_ aB).mono ?_;exact Hp.out.zbd (zA aA mA);rintro e w4 ⟨⟨t4,rfl,sA⟩,vA⟩;rw[zRp]at sA;have oA:=zA mA vA;obtain⟨⟨n0,_⟩,⟨n1,_⟩⟩:=HB.out.zbd oA;obtain⟨⟨n2,_⟩,⟨n3,_⟩⟩:=HX.out.zbd oA))
          have kA:=zA aA oA;have HT:=qL sA;clear sA;go_wp2;go_ret;exact⟨iA.out t4 (HT.out.trans ⟨fun h=>⟨HP.out,jA.out,h⟩,fun h=>h.2.2⟩),kA⟩
        · have jA:=qL nA
          clear nA;refine wp_region_held_drew (S:=(fun w'=>w'.cell? ⟨w.heap.size,0,none⟩=some (.slice a p.n c)/\w'.cell? ⟨w.heap.size,1,none⟩=some (.slice a' p.hn c')/\w'.cell? ⟨w.heap.size+1,0,none⟩=some (.int .i64 xs)/\w'.cell? ⟨w.heap.size+1,1,none⟩=some (.int .i64 xb))) (by kernel_rfl) ?_ (fun hHeld=>?_)
          · (try dsimp only)
            go_keep
          refine tk 0 (h:=tk 1 (h:=tk 2 (h:=?_)));refine rd [3] (rc (fun K hK=>?_) .nil);go_simp;go_at_call 98;refine(zJY _ p.n lo hi p.s xs xb _ ?_).mono ?_
          · first | exact Hp.out.1.zbd aA | exact Hp.out.1.zbd aA.drew
          rintro e w1 ⟨⟨t1,rfl,cA⟩,fA⟩;rw[zJZ HR.out]at cA;obtain rfl:t1=true:=cA.2 HP.out;clear cA;have bA:Below W.heap.size W w1:=(by first | exact fA | exact qW fA);obtain⟨⟨k0,_⟩,⟨k1,_⟩⟩:=HB.out.zbd bA;obtain⟨⟨k2,_⟩,⟨k3,_⟩⟩:=HX.out.zbd bA
          (try go_wp2_with fail)
          refine hK.out _ _ (by(try dsimp only);go_keep) ?_;clear hK K hHeld;intro hHeld
          try simp only[Act.put,s1,s2,s3]
          refine tk 4 (h:=tk 5 (h:=tk 6 (h:=tk 7 (h:=?_))));refine rd [8] (rc (fun K hK=>?_) .nil);go_simp;go_at_call 99;refine(zMa p HR.out _ lo hi xs xb _ ?_ HP.out).mono ?_
          · exact Hp.out.1.zbd (zA aA bA)
          rintro e w2 ⟨⟨t2,rfl,lA⟩,pA⟩;obtain rfl:t2=false:=zAR lA jA.out;clear lA;have eA:=zA bA pA;obtain⟨⟨l0,_⟩,⟨l1,_⟩⟩:=HB.out.zbd eA;obtain⟨⟨l2,_⟩,⟨l3,_⟩⟩:=HX.out.zbd eA
          (try go_wp2_with fail)
          refine hK.out _ _ (by(try dsimp only);go_keep) ?_;clear hK K hHeld;intro hHeld
          try simp only[Act.put,s1,s2,s3]
          refine tk 9 (h:=tk 10 (h:=ts 11 (h:=ts 12 (h:=ts 13 (h:=ts 14 (h:=?_))))));refine rd [15] (rc (fun K hK=>?_) .nil);split
          · rename_i dA
            exact absurd (show false=true from dA) Bool.false_ne_true
          refine hK.out _ _ (by assumption) (fun hHeld=>?_);clear hK K
          try simp only[Act.put,s1,s2,s3]
          refine rd [16] (rc (fun K hK=>?_) .nil);split
          · rename_i dA
            exact absurd (show false=true from dA) Bool.false_ne_true
          refine hK.out _ _ (by assumption) (fun hHeld=>?_);clear hK K
          try simp only[Act.put,s1,s2,s3]
          refine tk 17 (h:=tk 18 (h:=?_));refine wpAnyH_done (by kernel_rfl) ?_ _;have kA:=zA aA eA;go_wp2;go_ret;exact⟨iA.out false ⟨fun h=>(by cases h),fun h=>absurd h.2.1 jA.out⟩,kA⟩
      · have HP:=qL hP
        clear hP;refine wp_region_held_drew (S:=(fun w'=>w'.cell? ⟨w.heap.size,0,none⟩=some (.slice a p.n c)/\w'.cell? ⟨w.heap.size,1,none⟩=some (.slice a' p.hn c')/\w'.cell? ⟨w.heap.size+1,0,none⟩=some (.int .i64 xs)/\w'.cell? ⟨w.heap.size+1,1,none⟩=some (.int .i64 xb))) (by kernel_rfl) ?_ (fun hHeld=>?_)
        · (try dsimp only)
          go_keep
        refine tk 0 (h:=tk 1 (h:=tk 2 (h:=?_)));refine rd [3] (rc (fun K hK=>?_) .nil);go_simp;go_at_call 98;refine(zJY _ p.n lo hi p.s xs xb _ ?_).mono ?_
        · first | exact Hp.out.1.zbd aA | exact Hp.out.1.zbd aA.drew
        rintro e w1 ⟨⟨t1,rfl,cA⟩,fA⟩;rw[zJZ HR.out]at cA;obtain rfl:t1=false:=zAR cA HP.out;clear cA;have bA:Below W.heap.size W w1:=(by first | exact fA | exact qW fA);obtain⟨⟨k0,_⟩,⟨k1,_⟩⟩:=HB.out.zbd bA;obtain⟨⟨k2,_⟩,⟨k3,_⟩⟩:=HX.out.zbd bA
        (try go_wp2_with fail)
        refine hK.out _ _ (by(try dsimp only);go_keep) ?_;clear hK K hHeld;intro hHeld
        try simp only[Act.put,s1,s2,s3]
        refine tk 4 (h:=ts 5 (h:=ts 6 (h:=ts 7 (h:=?_))));refine rd [8] (rc (fun K hK=>?_) .nil);split
        · rename_i dA
          exact absurd (show false=true from dA) Bool.false_ne_true
        refine hK.out _ _ (by assumption) (fun hHeld=>?_);clear hK K
        try simp only[Act.put,s1,s2,s3]
        refine tk 9 (h:=tk 10 (h:=ts 11 (h:=ts 12 (h:=ts 13 (h:=ts 14 (h:=?_))))));refine rd [15] (rc (fun K hK=>?_) .nil);split
        · rename_i dA
          exact absurd (show false=true from dA) Bool.false_ne_true
        refine hK.out _ _ (by assumption) (fun hHeld=>?_);clear hK K
        try simp only[Act.put,s1,s2,s3]
        refine rd [16] (rc (fun K hK=>?_) .nil);split
        · rename_i dA
          exact absurd (show false=true from dA) Bool.false_ne_true
        refine hK.out _ _ (by assumption) (fun hHeld=>?_);clear hK K
        try simp only[Act.put,s1,s2,s3]
        refine tk 17 (h:=tk 18 (h:=?_));refine wpAnyH_done (by kernel_rfl) ?_ _;have kA:=zA aA bA;go_wp2;go_ret;exact⟨iA.out false ⟨fun h=>(by cases h),fun h=>absurd h.1 HP.out⟩,kA⟩
end Go.Proofs.YtginldeebkfbgaaGreat
