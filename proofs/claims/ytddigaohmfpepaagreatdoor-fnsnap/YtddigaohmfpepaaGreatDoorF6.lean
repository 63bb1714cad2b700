/- A part of the proof. -/
import Derived.Test.YtddigaohmfpepaaGreatDoorF5
import Derived.Deep.OwnRows
import Derived.Deep.RegionHeld
import Derived.Deep.RegionWith
import Derived.Laws.OwnMore
import Derived.Lib.SliceRun
import Derived.Deep.AppendLies
set_option linter.unusedVariables false
set_option maxRecDepth 20000
set_option maxHeartbeats 4000000
namespace Go.Proofs.YtddigaohmfpepaaGreatDoor
open Go.RowKit
def R5(n:Nat)(f:Nat->AH)(s:AH):Prop:=∀i,i<8->Fh n f s.birth (s.ks i) (s.kb i) (s.ks i) (s.kb i)
variable{n:Nat}{f:Nat->AH}
theorem Dw.uniq{x ps pb e d:Int}(h:Dw n f x ps pb)(i:Dw n f x e d):ps=e/\pb=d:=by
 rcases h with⟨a,b,c,rfl,rfl⟩ | ⟨a,rfl,rfl⟩<;>rcases i with⟨g,b',c',rfl,rfl⟩ | ⟨g,rfl,rfl⟩
 ·exact⟨rfl,rfl⟩
 ·exact absurd ⟨a,b,c⟩ g
 ·exact absurd ⟨g,b',c'⟩ a
 ·exact⟨rfl,rfl⟩
variable{rs rb:Int}
theorem Fh.uniq{b ks kb d c:Int}(h:Fh n f b ks kb rs rb)(g:Fh n f b ks kb d c):rs=d/\rb=c:=by
 obtain⟨ps,m,j,h⟩:=h;obtain⟨l,k,i,g⟩:=g;obtain⟨rfl,rfl⟩:=j.uniq i;rcases h with⟨a,rfl,rfl⟩ | ⟨a,rfl,rfl⟩<;>rcases g with⟨e,rfl,rfl⟩ | ⟨e,rfl,rfl⟩
 ·exact⟨rfl,rfl⟩
 ·exact absurd a e
 ·exact absurd e a
 ·exact⟨rfl,rfl⟩
theorem XC(g:Nat->Int)(k:Nat)(e:k<8)(x y:Int):((Aj g).setIfInBounds (k*2) (A0 x)).setIfInBounds (k*2+1) (A0 y)=Aj (fun j=>if j=k*2 then x else if j=k*2+1 then y else g j):=by
 apply Array.ext_getElem?;intro i;rw[Array.getElem?_setIfInBounds,Array.getElem?_setIfInBounds];simp only[Array.size_setIfInBounds,D4];by_cases a:i<16
 ·rw[EM _ a,EM _ a];by_cases b:k*2+1=i
  ·subst b;rw[if_pos rfl,if_pos (by omega),if_neg (by omega),if_pos rfl]
  ·rw[if_neg b];by_cases e0:k*2=i
   ·subst e0;rw[if_pos rfl,if_pos (by omega),if_pos rfl]
   ·rw[if_neg e0,if_neg (by omega),if_neg (by omega)]
 ·have c:(Aj g)[i]?=none:=Array.getElem?_eq_none (by rw[D4];omega);have d:(Aj (fun j=>if j=k*2 then x else if j=k*2+1 then y else g j))[i]?=none:=Array.getElem?_eq_none (by rw[D4];omega);rw[c,d,if_neg (by omega),if_neg (by omega)]
theorem zH(g:Nat->Int)(k:Nat)(a:k<8)(w:World):(Instr.index 121 (.agg (Aj g)) (A0 (k:Int))).run Tryz.prog w = .ok (.agg #[A0 (g (k*2)),A0 (g (k*2+1))]) w:=by
 rcases(by omega:k=0\/k=1\/k=2\/k=3\/k=4\/k=5\/k=6\/k=7)with rfl | rfl | rfl | rfl | rfl | rfl | rfl | rfl
 all_goals kernel_rfl
theorem zFs(g:Nat->Int)(k:Nat)(a:k<8)(w:World):(part 38 (Aj g) (k*2)).run Tryz.prog w = .ok (.agg #[A0 (g (k*2)),A0 (g (k*2+1))]) w:=by
 rcases(by omega:k=0\/k=1\/k=2\/k=3\/k=4\/k=5\/k=6\/k=7)with rfl | rfl | rfl | rfl | rfl | rfl | rfl | rfl
 all_goals kernel_rfl
theorem zGo(d:Nat)(a b c e:Int)(w:World):(Op.equalIn (d+2) 38 (.agg #[A0 a,A0 b]) (.agg #[A0 c,A0 e])).run Tryz.prog w = .ok (a == c && b == e) w:=by
 by_cases f:a=c<;>by_cases g:b=e
 all_goals simp[go_sem,f,g]
theorem zHK(w:World):(sizeOf 38).run Tryz.prog w = .ok 2 w:=by kernel_rfl
theorem XS{P:Program}(b:Nat->Bool)(F:Nat->Option Bool×Unit->Sem (ForInStep (Option Bool×Unit))):∀(L:List Nat) (w:World),(∀i∈L,∀s w,(F i s).run P w = .ok (if b i then .yield (none,())else .done (some false,())) w)->
 (forIn L (none,()) F).run P w = .ok (if L.all b then(none,())else(some false,())) w
 | [],w,_=>by simp[Sem.run_pure]
 | i :: L,w,hF=>by
  simp only[List.forIn_cons,Sem.run_bind,hF i (by simp),Result.andThen_ok,List.all_cons];by_cases a:b i=true
  ·simp only[a,if_true,Bool.true_and];exact XS b F L w (fun j c=>hF j (by simp[c]))
  ·simp[a,Sem.run_pure]
def F2(g h:Nat->Int):Bool:=(List.range 8).all fun i=>g (i*2) == h (i*2) && g (i*2+1) == h (i*2+1)
theorem QN(g h:Nat->Int):F2 g h=true↔∀i,i<8->g (i*2)=h (i*2)/\g (i*2+1)=h (i*2+1):=by
 simp[F2,List.all_eq_true]
theorem zd(g h:Nat->Int)(d:Nat)(w:World):(Op.equalIn (d+3) 121 (.agg (Aj g)) (.agg (Aj h))).run Tryz.prog w = .ok (F2 g h) w:=by
 rw[Op.equalIn];simp only[Sem.run_bind,run_underlying FP,Result.andThen_ok,zHK];rw[Std.Legacy.Range.forIn_eq_forIn_range'];have e:=XS (P:=Tryz.prog) (fun i=>g (i*2) == h (i*2) && g (i*2+1) == h (i*2+1)) (fun i (b:Option Bool×Unit)=>do
     let __do_lift <-part 38 (Aj g) (i*2)
     let __do_lift_1 <-part 38 (Aj h) (i*2)
     let __do_lift <-Op.equalIn (d+2) 38 __do_lift __do_lift_1
     if (!__do_lift)=true then pure (ForInStep.done (some false,()))else pure (ForInStep.yield (none,()))) (List.range 8) w (fun i hi s w=>by
  have a:i<8:=(by simpa using hi);simp only[Sem.run_bind,zFs _ i a,Result.andThen_ok,zGo];cases (g (i*2) == h (i*2) && g (i*2+1) == h (i*2+1))<;>simp[Sem.run_pure])
 have c:List.range' 0 (([:8]:Std.Legacy.Range).size) ([:8]:Std.Legacy.Range).step=List.range 8:=by rfl
 rw[c,e];simp only[Result.andThen_ok];unfold F2;cases ((List.range 8).all fun i=>g (i*2) == h (i*2) && g (i*2+1) == h (i*2+1))<;>simp[Sem.run_pure]
theorem Pc(g h:Nat->Int)(w:World):(binOp .eql 121 (.agg (Aj g)) (.agg (Aj h))).run Tryz.prog w = .ok (.bool (F2 g h)) w:=by
 rw[run_eql_struct,zd g h 9997];rfl
theorem zCa(v R v1 S:Value)(n lo hi lo' hi':Nat)(f:Nat->AH)(s:AH)(w:World)(V:CL w lo hi v n f)(W:CU w lo' hi' R v1 S s)(Q:s.kn=8) :
 Calls Tryz.prog 162 #[v,.agg #[R,v1,S]] w fun e w'=>AJ (R5 n f s) e/\Below w.heap.size w w':=by
 have Hv:Hid (CL w lo hi v n f):=V;obtain⟨m1,a,c,rfl,mc,g1⟩:=V;have Hs:Hid (CU w lo' hi' R v1 S s):=W;obtain⟨rfl,⟨m2,E,kc,rfl,jA,g2⟩,rfl,m3⟩:=W;have H:Hid (s.kn=8):=Q;clear g1 g2 Q;go_enter Tryz.func162,Tryz.ntmps162;go_wp2_with fail;have r:=AB w (.cells #[A0 s.birth,.slice E s.kn kc,.string s.data] 94);refine(OO _ _ _ lo' hi' s _ (Hs.out.A1 r) (Or.inr H.out)).mono ?_;rintro e b ⟨rfl,u⟩;have U:Hid (CZ b w.heap.size (A0 s.birth) (.slice E s.kn kc) (.string s.data)):=(CZ.new w _ _ _ _).A1 u;have O:=A9 r u;have l:Hid ((Tryz.prog.info? 121).map (·.size)=some (B9 s).size):=by
  show _=_;rw[B9,D4];exact GV
 clear r u;have F:(#[Value.int .i64 0,Value.int .i64 0,Value.int .i64 0,Value.int .i64 0,Value.int .i64 0,Value.int .i64 0,Value.int .i64 0,Value.int .i64 0,Value.int .i64 0,Value.int .i64 0,Value.int .i64 0,Value.int .i64 0,Value.int .i64 0,Value.int .i64 0,Value.int .i64 0,Value.int .i64 0]:Array Value)=Aj (fun _=>0):=rfl;have y:Hid ((#[Value.int .i64 0,Value.int .i64 0,Value.int .i64 0,Value.int .i64 0,Value.int .i64 0,Value.int .i64 0,Value.int .i64 0,Value.int .i64 0,Value.int .i64 0,Value.int .i64 0,Value.int .i64 0,Value.int .i64 0,Value.int .i64 0,Value.int .i64 0,Value.int .i64 0,Value.int .i64 0]:Array Value)=Aj (fun _=>0)):=F;clear F;go_wp2_with (first
  | (refine wpList_store_row rfl 121 (.tmp 5) (.tmp 10) rfl b.heap.size (B9 s) rfl rfl 121 #[Value.int .i64 0,Value.int .i64 0,Value.int .i64 0,Value.int .i64 0,Value.int .i64 0,Value.int .i64 0,Value.int .i64 0,Value.int .i64 0,Value.int .i64 0,Value.int .i64 0,Value.int .i64 0,Value.int .i64 0,Value.int .i64 0,Value.int .i64 0,Value.int .i64 0,Value.int .i64 0] (heap_alloc_last _ _) l.out (by rw[B9,D4];rfl) (I7 _) ?_;rw[World.setRow_alloc_new])
  | (refine wpList_load_row rfl 121 (.tmp 5) rfl b.heap.size rfl 121 (B9 s) (0,0) _ ?hh FP rfl l.out ?_;(exact(Below.heap_alloc _ _ _ (by simp)).trans (heap_alloc_last _ _))))
 have aA:w.heap.size<b.heap.size:=U.out.1.lt
 go_loopw [12] (fun i wr=>∃(k:Nat) (g:Nat->Int),k<=8/\i=A0 k/\(∀j,j<k->Fh n f s.birth (s.ks j) (s.kb j) (g (j*2)) (g (j*2+1)))/\CZ wr w.heap.size (A0 s.birth) (.slice E s.kn kc) (.string s.data)/\
  wr.heap[b.heap.size]?=some (.cells (B9 s) 121 (0,0))/\wr.heap[b.heap.size+1]?=some (.cells (Aj g) 121 (0,0))/\Below w.heap.size w wr) (fun i _=>8 - (intOf i).toNat)
 case atStart=>
  refine⟨0,fun _=>0,Nat.zero_le _,rfl,fun j Y=>absurd Y (Nat.not_lt_zero _),(U.out.A1 (AB _ _)).A1 (AB _ _),?_,?_,A9 (A9 O (AB _ _)) (AB _ _)⟩
  ·exact(Below.heap_alloc _ _ _ (by simp)).trans (heap_alloc_last _ _)
  ·have:=heap_alloc_last (b.alloc (.cells (B9 s) 121)) (.cells #[Value.int .i64 0,Value.int .i64 0,Value.int .i64 0,Value.int .i64 0,Value.int .i64 0,Value.int .i64 0,Value.int .i64 0,Value.int .i64 0,Value.int .i64 0,Value.int .i64 0,Value.int .i64 0,Value.int .i64 0,Value.int .i64 0,Value.int .i64 0,Value.int .i64 0,Value.int .i64 0] 121);rw[World.size_alloc]at this;rw[this,y.out]
 case round=>
  obtain⟨k,g,Q,rfl,p,hx,hK,hF,I⟩:=hrel;have d:Hid (∀j,j<k->Fh n f s.birth (s.ks j) (s.kb j) (g (j*2)) (g (j*2+1))):=p;have L:Hid (CZ wr w.heap.size (A0 s.birth) (.slice E s.kn kc) (.string s.data)):=hx;have J:Hid (wr.heap[b.heap.size]?=some (.cells (B9 s) 121 (0,0))):=hK;have G:Hid (wr.heap[b.heap.size+1]?=some (.cells (Aj g) 121 (0,0))):=hF;clear p hx hK hF;have D:b.heap.size+1<wr.heap.size:=(Array.getElem?_eq_some_iff.1 G.out).1;by_cases C:k<8
  ·have Z:(k:Int)<8:=(by omega);have A:∀w,(Instr.index 121 (.agg (B9 s)) (A0 (k:Int))).run Tryz.prog w = .ok (.agg #[A0 (s.ks k),A0 (s.kb k)]) w:=fun w=>by
    have e:=zH (BC s) k C w;have e0:BC s (k*2)=s.ks k:=(by unfold BC;rw[if_pos (by have:=H.out;omega),if_pos (by omega),show k*2 / 2=k by omega]);have e1:BC s (k*2+1)=s.kb k:=(by unfold BC;rw[if_pos (by have:=H.out;omega),if_neg (by omega),show(k*2+1) / 2=k by omega]);rw[e0,e1]at e;exact e
   obtain⟨⟨x0,x1⟩,⟨x2,x3⟩,⟨x4,x5⟩⟩:=L.out;have bA:w.heap.size<wr.heap.size:=(by omega);go_wp2_with fail;have t:=AB wr (.cells #[A0 (s.ks k),A0 (s.kb k)] 38);refine(zCG _ n lo hi f _ _ _ _ (Hv.out.A1 (A9 I t))).mono ?_;rintro e T ⟨⟨rs,rb,rfl,B⟩,z⟩;have N:Hid (Fh n f s.birth (s.ks k) (s.kb k) rs rb):=B;have m:=A9 t z;have q:Hid (T.heap[b.heap.size+1]?=some (.cells (Aj g) 121 (0,0))):=(m.block _ D).trans G.out;have K:Hid (T.heap[b.heap.size]?=some (.cells (B9 s) 121 (0,0))):=(m.block _ (by omega)).trans J.out;have M:Hid (CZ T w.heap.size (A0 s.birth) (.slice E s.kn kc) (.string s.data)):=L.out.A1 m;have P:=A9 I m;clear B z t m x0 x1 x2 x3 x4 x5 A G J L I;obtain⟨y0,y1⟩:=Az (i:=k*2) q.out (EM g (by omega));obtain⟨y2,y3⟩:=Az (i:=k*2+1) q.out (EM g (by omega));go_wp2;go_roundw
   case rel=>
    refine⟨k+1,fun j=>if j=k*2 then rs else if j=k*2+1 then rb else g j,by omega,by go_num,fun j Y=>?_,(M.out.other _ (by omega)).other _ (by omega),?_,?_,(P.setCell (by show _<=b.heap.size+1;omega) _).setCell (by show _<=b.heap.size+1;omega) _⟩
    ·by_cases e:j=k
     ·subst e;simp only[if_true];rw[if_neg (by omega)];exact N.out
     ·simp only;rw[if_neg (by omega),if_neg (by omega),if_neg (by omega),if_neg (by omega)];exact d.out j (by omega)
    ·rw[Below.heap_setCell _ _ _ _ (by show b.heap.size≠b.heap.size+1;omega),Below.heap_setCell _ _ _ _ (by show b.heap.size≠b.heap.size+1;omega)];exact K.out
    ·have:=Oz (o:=k*2+1) (A0 rb) (Oz (o:=k*2) (A0 rs) q.out);rw[XC g k C]at this;exact this
   case measure=>simp[intOf];omega
  ·obtain rfl:k=8:=(by omega);have X:∀w,(binOp .eql 121 (.agg (Aj g)) (.agg (B9 s))).run Tryz.prog w = .ok (.bool (F2 g (BC s))) w:=fun w=>Pc g (BC s) w
   have x:Hid ((Tryz.prog.info? 121).map (·.size)=some (Aj g).size):=by
    show _=_;rw[D4];exact GV
   go_wp2_with (first
    | (refine wpList_load_row rfl 121 (.tmp 6) rfl (b.heap.size+1) rfl 121 (Aj g) (0,0) _ G.out FP rfl x.out ?_)
    | (refine wpList_load_row rfl 121 (.tmp 5) rfl b.heap.size rfl 121 (B9 s) (0,0) _ J.out FP rfl l.out ?_))
   go_ret;refine⟨⟨_,rfl,?_⟩,I⟩;rw[QN];have e0:∀i,i<8->BC s (i*2)=s.ks i/\BC s (i*2+1)=s.kb i:=fun i hi=>by
    have:=H.out;refine⟨?_,?_⟩
    ·unfold BC;rw[if_pos (by omega),if_pos (by omega),show i*2 / 2=i by omega]
    ·unfold BC;rw[if_pos (by omega),if_neg (by omega),show(i*2+1) / 2=i by omega]
   constructor
   ·intro h i hi;have:=d.out i hi;rw[(h i hi).1,(h i hi).2,(e0 i hi).1,(e0 i hi).2]at this;exact this
   ·intro h i hi;rw[(e0 i hi).1,(e0 i hi).2];exact(d.out i hi).uniq (h i hi)
def Jq(n:Nat)(f:Nat->AH)(s:AH):Prop:=Ah s\/FM s\/(IM s/\R5 n f s)
def Lg(p:A7)(i:Nat):Prop:=¬Dw p.n p.s (p.h i) 0 0/\¬Has i p.h (p.h i)
def zHo(p:A7):Prop:=p.n<=200/\p.hn<=p.n/\(∀i,i<p.n->Jq p.n p.s (p.s i))/\∀i,i<p.hn->Lg p i
theorem Z4(v J v1 K:Value)(n lo hi lo' hi':Nat)(f:Nat->AH)(s:AH)(w:World)(L:CL w lo hi v n f)(M:CU w lo' hi' J v1 K s) :
 Calls Tryz.prog 123 #[v,.agg #[J,v1,K]] w fun e w'=>AJ (Jq n f s) e/\Below w.heap.size w w':=by
 have O:Hid (CL w lo hi v n f):=L;obtain⟨V,a,c,rfl,Y,P⟩:=L;have F:Hid (CU w lo' hi' J v1 K s):=M;obtain⟨rfl,⟨W,G,kc,rfl,R,Q⟩,rfl,X⟩:=M;clear P Q;go_enter Tryz.func123,Tryz.ntmps123;go_wp2_with fail;have l:=AB w (.cells #[A0 s.birth,.slice G s.kn kc,.string s.data] 94);refine(Kr _ _ _ lo' hi' s _ (F.out.A1 l)).mono ?_;rintro e S ⟨⟨t,rfl,d⟩,m⟩;have H:Hid (CZ S w.heap.size (A0 s.birth) (.slice G s.kn kc) (.string s.data)):=(CZ.new w _ _ _ _).A1 m;have i:=A9 l m;clear l m;by_cases b:Ah s
 ·obtain rfl:t=true:=d.2 b;have C:Hid (Ah s):=b;clear d b;go_wp2;go_ret;exact⟨AJ.yes (Or.inl C.out),i⟩
 ·obtain rfl:t=false:=BQ d b;have C:Hid (¬Ah s):=b;clear d b;obtain⟨⟨u,x⟩,⟨y,z⟩,⟨A,B⟩⟩:=H.out;go_wp2_with fail;refine(YD _ _ _ lo' hi' s _ (F.out.A1 i)).mono ?_;rintro e T ⟨⟨t,rfl,d⟩,o⟩;have k:Hid (CZ T w.heap.size (A0 s.birth) (.slice G s.kn kc) (.string s.data)):=H.out.A1 o;have j:=A9 i o;clear o i u x y z A B H;by_cases b:FM s
  ·obtain rfl:t=true:=d.2 b;have E:Hid (FM s):=b;clear d b;go_wp2;go_ret;exact⟨AJ.yes (Or.inr (Or.inl E.out)),j⟩
  ·obtain rfl:t=false:=BQ d b;have E:Hid (¬FM s):=b;clear d b;obtain⟨⟨u,x⟩,⟨y,z⟩,⟨A,B⟩⟩:=k.out;go_wp2_with fail;refine(zAi _ _ _ lo' hi' s _ (F.out.A1 j)).mono ?_;rintro e U ⟨⟨t,rfl,d⟩,p⟩;have q:Hid (CZ U w.heap.size (A0 s.birth) (.slice G s.kn kc) (.string s.data)):=k.out.A1 p;have g:=A9 j p;clear p j u x y z A B k;by_cases b:IM s
   ·obtain rfl:t=true:=d.2 b;have D:Hid (IM s):=b;clear d b;obtain⟨⟨u,x⟩,⟨y,z⟩,⟨A,B⟩⟩:=q.out;go_wp2_with fail;refine(zCa _ _ _ _ n lo hi lo' hi' f s _ (O.out.A1 g) (F.out.A1 g) D.out.2.1).mono ?_;rintro e Z ⟨⟨t,rfl,d⟩,r⟩;have N:Hid (t=true↔R5 n f s):=d;have I:=A9 g r;clear r g u x y z A B q d;go_wp2;go_ret;refine⟨⟨t,rfl,N.out.trans ⟨fun h=>Or.inr (Or.inr ⟨D.out,h⟩),fun h=>?_⟩⟩,I⟩;rcases h with h | h | h
    ·exact absurd h C.out
    ·exact absurd h E.out
    ·exact h.2
   ·obtain rfl:t=false:=BQ d b;have D:Hid (¬IM s):=b;clear d b;go_wp2;go_ret;refine⟨AJ.no fun h=>?_,g⟩;rcases h with h | h | h
    ·exact C.out h
    ·exact E.out h
    ·exact D.out h.1
theorem zCW(H v1:Value)(lo hi:Nat)(p:A7)(w:World)(Q:CD w lo hi H v1 p) :
 Calls Tryz.prog 124 #[.agg #[H,v1]] w fun e w'=>AJ (∀i,i<p.hn->Lg p i) e/\Below w.heap.size w w':=by
 have O:Hid (CD w lo hi H v1 p):=Q;obtain⟨⟨m1,a,c,rfl,mc,W⟩,⟨m2,F,c',rfl,eA,X⟩⟩:=Q;unfold maxLen at m1 m2;clear W X;go_enter Tryz.func124,Tryz.ntmps124;go_wp2
 go_loopw [8] (fun i wr=>∃k:Nat,k<=p.hn/\i=A0 k/\(∀j,j<k->Lg p j)/\Ad wr w.heap.size (.slice a p.n c) (.slice F p.hn c')/\Below w.heap.size w wr) (fun i _=>p.hn - (intOf i).toNat)
 case atStart=>exact⟨0,Nat.zero_le _,rfl,fun j hj=>absurd hj (Nat.not_lt_zero _),Ad.new _ _ _ _,AB _ _⟩
 case round=>
  obtain⟨k,hk,rfl,l,S,A⟩:=hrel;have g:Hid (∀j,j<k->Lg p j):=l;have E:Hid (Ad wr w.heap.size (.slice a p.n c) (.slice F p.hn c')):=S;clear l S;obtain⟨⟨I,J⟩,⟨K,L⟩⟩:=E.out;by_cases f:k<p.hn
  ·have R:(k:Int)<(p.hn:Int):=(by omega);have m:=O.out.2.A1 A;have r:Hid (DA wr lo hi (.slice F p.hn c') p.hn p.h):=m;obtain⟨_,a2,P,y,_,z⟩:=m;simp only[Value.slice.injEq,true_and]at y;obtain⟨rfl,rfl⟩:=y;obtain⟨b,off,rfl,_,_,T⟩:=z (by omega);have Z:=T k f;clear T z;go_wp2_with fail;refine(OJ _ p.n lo hi p.s _ _ (O.out.1.A1 A)).mono ?_;rintro e U ⟨⟨ps,D,rfl,v⟩,d⟩;have u:Hid (Dw p.n p.s (p.h k) ps D):=v;have N:Hid (Ad U w.heap.size (.slice a p.n c) (.slice (some ⟨b,off,none⟩) p.hn c')):=E.out.A1 d;have M:Hid (DA U lo hi (.slice (some ⟨b,off,none⟩) k k) k p.h):=(r.out.A1 d).take (by omega) (by omega);have o:=A9 A d;clear v d I J K L E;by_cases C:ps=0/\D=0
   ·obtain⟨rfl,rfl⟩:=C;go_wp2;go_ret;exact⟨AJ.no fun h=>(h k f).1 u.out,o⟩
   ·have V:Hid (¬Dw p.n p.s (p.h k) 0 0):=fun h=>by
     obtain⟨e0,G⟩:=u.out.uniq h;exact C ⟨e0,G⟩
    have e0:(ps == 0)=false\/(ps == 0)=true/\(D == 0)=false:=by
     by_cases h:ps=0
     ·right;refine⟨by simp[h],?_⟩;have:D≠0:=fun Y=>C ⟨h,Y⟩
      simp[this]
     ·left;simp[h]
    clear C;obtain⟨⟨I,J⟩,⟨K,L⟩⟩:=N.out;have bA:k<=c':=(by omega);by_cases B:Has k p.h (p.h k)
    ·have q:Hid (Has k p.h (p.h k)):=B;clear B;rcases e0 with e0 | ⟨e0,G⟩
     all_goals
      go_wp2_with fail;refine(On _ k lo hi p.h _ _ M.out).mono ?_;rintro e w2 ⟨⟨t,rfl,x⟩,rfl⟩;obtain rfl:t=true:=x.2 q.out;clear x;go_wp2;go_ret;exact⟨AJ.no fun h=>(h k f).2 q.out,o⟩
    ·have q:Hid (¬Has k p.h (p.h k)):=B;clear B;rcases e0 with e0 | ⟨e0,G⟩
     all_goals
      go_wp2_with fail;refine(On _ k lo hi p.h _ _ M.out).mono ?_;rintro e w2 ⟨⟨t,rfl,x⟩,rfl⟩;obtain rfl:t=false:=BQ x q.out;clear x I J K L;go_wp2;go_roundw
      case rel=>exact⟨k+1,by omega,by go_num,Br f g.out ⟨V.out,q.out⟩,N.out,o⟩
      case measure=>simp[intOf];omega
  ·obtain rfl:k=p.hn:=(by omega);go_wp2;go_ret;exact⟨AJ.yes g.out,A⟩
theorem qL:∀(m n:Nat) (h:Nat->Nat),(∀i,i<m->h i<n)->(∀i j,i<j->j<m->h i≠h j)->m<=n
 | 0,_,_,_,_=>Nat.zero_le _
 | m+1,0,h,hlt,_=>absurd (hlt 0 (by omega)) (Nat.not_lt_zero _)
 | m+1,n+1,h,hlt,hne=>by
  have key:=qL m n (fun i=>if h i<h m then h i else h i - 1) (fun i hi=>by
   have a:=hlt i (by omega);have b:=hne i m hi (by omega);have c:=hlt m (by omega);show(if h i<h m then h i else h i - 1)<n;split<;>omega) (fun i j d e=>by
   have a:=hne i j d (by omega);have b:=hne i m (by omega) (by omega);have c:=hne j m (by omega) (by omega);show(if h i<h m then h i else h i - 1)≠(if h j<h m then h j else h j - 1);split<;>split<;>omega)
  omega
variable{s:AH}
theorem Y8(h:Ah s):s.birth=0:=h.1
theorem zFi(h:Jq n f s)(a:¬Ah s):1<=s.birth:=by
 rcases h with h | h | h
 ·exact absurd h a
 ·exact h.1.1
 ·exact h.1.1.1
variable{p:A7}
theorem RF(h:Ah s\/C5 p s)(a:¬Ah s):1<=s.birth:=by
 rcases h with h | h
 ·exact absurd h a
 ·exact h.1.1
theorem NS{b ks kb:Int}(a:∀i,i<p.n->¬Ah (p.s i)->1<=(p.s i).birth):Fh p.n p.s b ks kb ks kb↔Mp p b ks kb:=by
 constructor
 ·rintro⟨ps,o,m,h⟩;rcases h with⟨h,rfl,rfl⟩ | ⟨h,rfl,rfl⟩
  ·exact Or.inl ⟨rfl,rfl⟩
  ·rcases m with⟨d,e,f,_,g⟩ | ⟨d,rfl,rfl⟩
   ·right;have j:=a ks.toNat (by omega) f;rw[<-g]at j;refine⟨⟨j,d,e,g.symm⟩,?_⟩;by_cases c:b<kb
    ·exact absurd (Or.inr c) h
    ·omega
   ·exact absurd (Or.inl ⟨rfl,rfl⟩) h
 ·rintro(⟨rfl,rfl⟩ | ⟨⟨d,e,f,k⟩,g⟩)
  ·by_cases c:0<p.n/\¬Ah (p.s 0)
   ·refine⟨0,(p.s 0).birth,Or.inl ⟨by omega,by omega,?_,rfl,rfl⟩,Or.inl ⟨Or.inl ⟨rfl,rfl⟩,rfl,rfl⟩⟩;exact c.2
   ·refine⟨0,0,Or.inr ⟨fun h=>c ⟨by omega,h.2.2⟩,rfl,rfl⟩,Or.inl ⟨Or.inl ⟨rfl,rfl⟩,rfl,rfl⟩⟩
  ·refine⟨ks,kb,Or.inl ⟨e,f,fun l=>?_,rfl,k.symm⟩,Or.inr ⟨fun h=>?_,rfl,rfl⟩⟩
   ·have:=Y8 l;omega
   ·rcases h with h | h
    ·have:=h.2;omega
    ·omega
theorem MA(p:A7):zHo p↔AZ p:=by
 constructor
 ·rintro⟨o,y,m,l⟩;have f:∀i,i<p.n->¬Ah (p.s i)->1<=(p.s i).birth:=fun i hi=>zFi (m i hi)
  refine⟨o,fun i hi=>?_,fun i hi=>?_⟩
  ·rcases m i hi with h | h | h
   ·exact Or.inl h
   ·exact Or.inr ⟨h.1,Or.inl h.2⟩
   ·refine Or.inr ⟨h.1.1,Or.inr ⟨h.1.2.1,h.1.2.2,fun j r=>?_⟩⟩;exact(NS f).1 (h.2 j (by have:=h.1.2.1;omega))
  ·obtain⟨t,u⟩:=l i hi;have k:0<=p.h i/\p.h i<p.n/\¬Ah (p.s (p.h i).toNat):=by
    by_cases k:0<=p.h i/\p.h i<p.n/\¬Ah (p.s (p.h i).toNat)
    ·exact k
    ·exact absurd (Or.inr ⟨k,rfl,rfl⟩) t
   exact⟨k.1,k.2.1,k.2.2,u⟩
 ·rintro⟨o,m,l⟩;have f:∀i,i<p.n->¬Ah (p.s i)->1<=(p.s i).birth:=fun i hi=>RF (m i hi)
  refine⟨o,?_,fun i hi=>?_,fun i hi=>?_⟩
  ·refine qL p.hn p.n (fun i=>(p.h i).toNat) (fun i hi=>?_) (fun i j q r=>?_)
   ·obtain⟨a,b,_,_⟩:=l i hi;show(p.h i).toNat<p.n;omega
   ·obtain⟨a,b,_,d⟩:=l j r;obtain⟨v,b',_,_⟩:=l i (by omega);show(p.h i).toNat≠(p.h j).toNat;intro e;exact d ⟨i,q,by omega⟩
  ·rcases m i hi with h | h
   ·exact Or.inl h
   ·rcases h.2 with g | g
    ·exact Or.inr (Or.inl ⟨h.1,g⟩)
    ·exact Or.inr (Or.inr ⟨⟨h.1,g.1,g.2.1⟩,fun j r=>(NS f).2 (g.2.2 j (by omega))⟩)
  ·obtain⟨a,b,c,d⟩:=l i hi;refine⟨fun k=>?_,d⟩;rcases k with⟨_,_,_,w,x⟩ | ⟨k,_⟩
   ·have:=f (p.h i).toNat (by omega) c;omega
   ·exact k ⟨a,b,c⟩
theorem MR(B v1:Value)(lo hi:Nat)(p:A7)(w:World)(D:CD w lo hi B v1 p) :
 Calls Tryz.prog 64 #[.agg #[B,v1]] w fun e w'=>AJ (AZ p) e/\Below w.heap.size w w':=by
 have A:Hid (CD w lo hi B v1 p):=D;obtain⟨⟨T,a,c,rfl,Z,O⟩,⟨U,z,c',rfl,V,P⟩⟩:=D;unfold maxLen at T U;clear O P;have o:Hid (Below w.heap.size w (w.alloc (.cells #[.slice a p.n c,.slice z p.hn c'] 26))):=AB _ _;by_cases hn:(200:Int)<p.n
 ·have H:Hid (¬AZ p):=fun h=>by have:=h.1;omega
  go_enter Tryz.func64,Tryz.ntmps64;go_wp2;go_ret;exact⟨AJ.no H.out,o.out⟩
 by_cases R:(p.n:Int)<p.hn
 ·have H:Hid (¬AZ p):=fun h=>by have:=((MA p).2 h).2.1;omega
  go_enter Tryz.func64,Tryz.ntmps64;go_wp2;go_ret;exact⟨AJ.no H.out,o.out⟩
 ·go_enter Tryz.func64,Tryz.ntmps64;go_wp2
  go_loopw [21] (fun i wr=>∃k:Nat,k<=p.n/\i=A0 k/\(∀j,j<k->Jq p.n p.s (p.s j))/\Ad wr w.heap.size (.slice a p.n c) (.slice z p.hn c')/\Below w.heap.size w wr) (fun i _=>p.n - (intOf i).toNat)
  case atStart=>exact⟨0,Nat.zero_le _,rfl,fun j Q=>absurd Q (Nat.not_lt_zero _),Ad.new _ _ _ _,o.out⟩
  case round=>
   obtain⟨k,Y,rfl,m,F,u⟩:=hrel;have l:Hid (∀j,j<k->Jq p.n p.s (p.s j)):=m;have y:Hid (Ad wr w.heap.size (.slice a p.n c) (.slice z p.hn c')):=F;clear m F;obtain⟨⟨J,K⟩,⟨L,M⟩⟩:=y.out;have S:w.heap.size<wr.heap.size:=y.out.1.lt;by_cases r:k<p.n
   ·have E:(k:Int)<(p.n:Int):=(by omega);obtain⟨b,off,G,kc,rfl,hs⟩:=(A.out.1.A1 u).cells r;have C:Hid (Jn wr b (off+k*3) lo hi G kc (p.s k)):=hs;obtain⟨W,q1,X,_⟩:=hs;go_wp2_with fail;have f:=AB wr (.cells #[A0 (p.s k).birth,.slice G (p.s k).kn kc,.string (p.s k).data] 94);refine(Z4 _ _ _ _ p.n lo hi lo hi p.s (p.s k) _ (A.out.1.A1 (A9 u f)) (C.out.slot.A1 f)).mono ?_;rintro e I ⟨⟨t,rfl,v⟩,d⟩;have q:=A9 f d;have N:Hid (Ad I w.heap.size (.slice (some ⟨b,off,none⟩) p.n c) (.slice z p.hn c')):=y.out.A1 q;have g:=A9 u q;have x:Hid (t=true↔Jq p.n p.s (p.s k)):=v;clear f d q v W q1 X J K L M y C;cases t
    ·go_wp2;go_ret;refine⟨AJ.no fun h=>?_,g⟩;have:=((MA p).2 h).2.2.1 k r;exact absurd (x.out.2 this) (by simp)
    ·go_wp2;go_roundw
     case rel=>exact⟨k+1,by omega,by go_num,Br r l.out (by simpa using x.out),N.out,g⟩
     case measure=>simp[intOf];omega
   ·obtain rfl:k=p.n:=(by omega);go_wp2_with fail;refine(zCW _ _ lo hi p _ (A.out.A1 u)).mono ?_;rintro e I ⟨⟨t,rfl,v⟩,d⟩;have x:Hid (t=true↔∀i,i<p.hn->Lg p i):=v;have g:=A9 u d;clear v d J K L M;go_wp2;go_ret;refine⟨⟨t,rfl,x.out.trans ⟨fun h=>?_,fun h=>?_⟩⟩,g⟩
    ·exact(MA p).1 ⟨by omega,by omega,l.out,h⟩
    ·exact((MA p).2 h).2.2.2
theorem Dw.some(n:Nat)(f:Nat->AH)(x:Int):∃ps a,Dw n f x ps a:=by
 by_cases h:0<=x/\x<n/\¬Ah (f x.toNat)
 ·exact⟨x,(f x.toNat).birth,Or.inl ⟨h.1,h.2.1,h.2.2,rfl,rfl⟩⟩
 ·exact⟨0,0,Or.inr ⟨h,rfl,rfl⟩⟩
theorem OG(v:Value)(n lo hi:Nat)(f:Nat->AH)(xs xb:Int)(w:World)(z:CL w lo hi v n f) :
 Calls Tryz.prog 167 #[v,.agg #[A0 xs,A0 xb]] w fun e w'=>AJ (¬JP xs xb 0 0/\Dw n f xs xs xb) e/\Below w.heap.size w w':=by
 have x:Hid (CL w lo hi v n f):=z;obtain⟨I,a,c,rfl,J,D⟩:=z;clear D;have k:=AB w (.cells #[A0 xs,A0 xb] 38);have o:Hid (Ad (w.alloc (.cells #[A0 xs,A0 xb] 38)) w.heap.size (A0 xs) (A0 xb)):=Ad.new _ _ _ _;by_cases q:xs=0/\xb=0
 ·obtain⟨rfl,rfl⟩:=q;go_enter Tryz.func167,Tryz.ntmps167;go_wp2_with fail
  go_quiet (fail)
  go_wp2;go_ret;exact⟨AJ.no fun h=>h.1 ⟨rfl,rfl⟩,Js k _⟩
 ·have B:Hid (¬JP xs xb 0 0):=q;have e0:(xs == 0)=false\/(xs == 0)=true/\(xb == 0)=false:=by
   by_cases h:xs=0
   ·right;refine⟨by simp[h],?_⟩;have:xb≠0:=fun s=>q ⟨h,s⟩
    simp[this]
   ·left;simp[h]
  clear q;obtain⟨d,i,y⟩:=Dw.some n f xs;have m:Hid (Dw n f xs d i):=y;clear y;by_cases p:xs=d/\xb=i
  ·obtain⟨rfl,rfl⟩:=p;rcases e0 with e0 | ⟨e0,C⟩
   all_goals
    go_enter Tryz.func167,Tryz.ntmps167;go_wp2_with fail;go_region_held3 (fun w'=>w'.cell? ⟨w.heap.size,0,none⟩=some (A0 xs)/\w'.cell? ⟨w.heap.size,1,none⟩=some (A0 xb)) (go_keep)
     (first | (go_at_call 163;refine(OJ _ n lo hi f _ _ ?_).mono ?_;(exact(x.out.A1 k).A1 ((Below.refl _ _).drew));rintro e G ⟨⟨ps,E,rfl,l⟩,g⟩;obtain⟨rfl,rfl⟩:=m.out.uniq l;clear l;have b:=Cp g;have t:=(o.out.A1 b).1.1;have u:=(o.out.A1 b).2.1))
    have j:=A9 k b;clear g b t u;go_wp2;go_ret;exact⟨AJ.yes ⟨B.out,m.out⟩,j⟩
  ·have A:Hid (¬(xs=d/\xb=i)):=p;have r:(xs == d)=false\/(xs == d)=true/\(xb == i)=false:=by
    by_cases h:xs=d
    ·right;refine⟨by simp[h],?_⟩;have:xb≠i:=fun s=>p ⟨h,s⟩
     simp[this]
    ·left;simp[h]
   clear p;rcases e0 with e0 | ⟨e0,C⟩
   all_goals
    rcases r with r | ⟨r,H⟩
    all_goals
     go_enter Tryz.func167,Tryz.ntmps167;go_wp2_with fail;go_region_held3 (fun w'=>w'.cell? ⟨w.heap.size,0,none⟩=some (A0 xs)/\w'.cell? ⟨w.heap.size,1,none⟩=some (A0 xb)) (go_keep)
      (first | (go_at_call 163;refine(OJ _ n lo hi f _ _ ?_).mono ?_;(exact(x.out.A1 k).A1 ((Below.refl _ _).drew));rintro e G ⟨⟨ps,E,rfl,l⟩,g⟩;obtain⟨rfl,rfl⟩:=m.out.uniq l;clear l;have b:=Cp g;have t:=(o.out.A1 b).1.1;have u:=(o.out.A1 b).2.1))
     have j:=A9 k b;clear g b t u;go_wp2;go_ret;refine⟨AJ.no fun h=>?_,j⟩;obtain⟨F,q1⟩:=h.2.uniq m.out;exact A.out ⟨F,q1⟩
variable{xs xb:Int}
theorem OH(j:AZ p):(¬JP xs xb 0 0/\Dw p.n p.s xs xs xb)↔B8 p xs xb:=by
 constructor
 ·rintro⟨h,f | ⟨_,g,i⟩⟩
  ·obtain⟨a,b,c,_,e⟩:=f;have:=RF (j.2.1 xs.toNat (by omega)) c;exact⟨by omega,a,b,e.symm⟩
  ·exact absurd ⟨g,i⟩ h
 ·rintro⟨a,b,c,d⟩;refine⟨fun h=>by have:=h.2;omega,Or.inl ⟨b,c,fun k=>?_,rfl,d.symm⟩⟩;have:=Y8 k;omega
def Nil(xs xb:Int):Prop:=xs=0/\xb=0
instance (xs xb:Int):Decidable (Nil xs xb):=inferInstanceAs (Decidable (xs=0/\xb=0))
def one(xs xb:Int):List (Int×Int):=if Nil xs xb then [] else [(xs,xb)]
def kidsUp(ks kb:Nat->Int):Nat->List (Int×Int)
 | 0=>[]
 | k+1=>kidsUp ks kb k ++ one (ks k) (kb k)
def AK(s:AH)(i:Nat):Int:=BC s (i*2)
def AW(s:AH)(i:Nat):Int:=BC s (i*2+1)
def Eh(s:AH):List (Int×Int):=kidsUp (AK s) (AW s) 8
def Ck(p:A7)(xs xb:Int):List (Int×Int):=if Nil xs xb then [] else(xs,xb) :: Eh (p.s xs.toNat)
def CR(p:A7)(s:AH):Nat->List (Int×Int)
 | 0=>[]
 | k+1=>CR p s k ++ Ck p (AK s k) (AW s k)
def AG(p:A7)(rs rb:Int):List (Int×Int):=if Nil rs rb then [] else(rs,rb) :: CR p (p.s rs.toNat) 8
variable{i:Nat}
theorem FE(h:s.kn=8)(hi:i<8):AK s i=s.ks i:=by
 unfold AK BC;rw[show i*2 / 2=i by omega,if_pos (by omega),if_pos (by omega)]
theorem FD(h:s.kn=8)(hi:i<8):AW s i=s.kb i:=by
 unfold AW BC;rw[show(i*2+1) / 2=i by omega,if_pos (by omega),if_neg (by omega)]
theorem Sw(h:s.kn=0)(i:Nat):AK s i=0:=by
 unfold AK BC;rw[if_neg (by omega)]
theorem Sv(h:s.kn=0)(i:Nat):AW s i=0:=by
 unfold AW BC;rw[if_neg (by omega)]
variable{x:Int×Int}
theorem Pu:x∈one xs xb↔x=(xs,xb)/\¬Nil xs xb:=by
 unfold one;by_cases h:Nil xs xb
 ·rw[if_pos h];simp[h]
 ·rw[if_neg h];simp[h]
theorem Gk{ks kb:Nat->Int}{x:Int×Int}:∀{k:Nat},x∈kidsUp ks kb k↔∃i,i<k/\x=(ks i,kb i)/\¬Nil (ks i) (kb i)
 | 0=>by simp[kidsUp]
 | k+1=>by
  rw[kidsUp,List.mem_append,Gk,Pu];constructor
  ·rintro(⟨i,hi,h⟩ | h)
   ·exact⟨i,by omega,h⟩
   ·exact⟨k,by omega,h⟩
  ·rintro⟨i,hi,h⟩;by_cases e:i=k
   ·subst e;exact Or.inr h
   ·exact Or.inl ⟨i,by omega,h⟩
theorem I5:x∈Ck p xs xb↔¬Nil xs xb/\(x=(xs,xb)\/x∈Eh (p.s xs.toNat)):=by
 unfold Ck;by_cases h:Nil xs xb
 ·rw[if_pos h];simp[h]
 ·rw[if_neg h];simp[h]
theorem Gf{p:A7}{s:AH}{x:Int×Int}:∀{k:Nat},x∈CR p s k↔∃i,i<k/\x∈Ck p (AK s i) (AW s i)
 | 0=>by simp[CR]
 | k+1=>by
  rw[CR,List.mem_append,Gf];constructor
  ·rintro(⟨i,hi,h⟩ | h)
   ·exact⟨i,by omega,h⟩
   ·exact⟨k,by omega,h⟩
  ·rintro⟨i,hi,h⟩;by_cases e:i=k
   ·subst e;exact Or.inr h
   ·exact Or.inl ⟨i,by omega,h⟩
theorem IB(b a:Nat->Int):∀k,(kidsUp b a k).length<=k
 | 0=>Nat.le_refl _
 | k+1=>by
  have:=IB b a k;unfold kidsUp one;split<;>simp<;>omega
theorem Uz(p:A7)(xs xb:Int):(Ck p xs xb).length<=9:=by
 unfold Ck;have:=IB (AK (p.s xs.toNat)) (AW (p.s xs.toNat)) 8;split
 ·simp
 ·show(Eh _).length+1<=9;unfold Eh;omega
theorem OM(p:A7)(s:AH):∀k,(CR p s k).length<=9*k
 | 0=>Nat.le_refl _
 | k+1=>by
  have:=OM p s k;have:=Uz p (AK s k) (AW s k);unfold CR;rw[List.length_append];omega
theorem Dh(p:A7)(rs rb:Int):(AG p rs rb).length<=73:=by
 unfold AG;have:=OM p (p.s rs.toNat) 8;split
 ·simp
 ·show(CR _ _ _).length+1<=73;omega
def Db(p:A7)(xs xb:Int):Prop:=B8 p xs xb/\0<(p.s xs.toNat).kn/\¬Has p.hn p.h xs
def Ep(p:A7)(xs xb:Int):Prop:=B8 p xs xb/\(p.s xs.toNat).kn=0/\¬Has p.hn p.h xs
def LI(p:A7)(s:AH):Prop:=(∀i,i<8->Nil (AK s i) (AW s i)\/Ep p (AK s i) (AW s i))/\∃i,i<8/\¬Nil (AK s i) (AW s i)
def JN(p:A7)(s:AH)(i:Nat):Prop:=Nil (AK s i) (AW s i)\/(Db p (AK s i) (AW s i)/\LI p (p.s (AK s i).toNat))
def Bk(l:List (Int×Int)):List Int:=l.map Prod.fst
def LL(p:A7)(s:AH):Prop:=(∀i,i<8->JN p s i)/\∃i,i<8/\¬Nil (AK s i) (AW s i)
def B3(p:A7)(rs rb:Int):Prop:=Nil rs rb\/(Db p rs rb/\LL p (p.s rs.toNat)/\(Bk (AG p rs rb)).Nodup)
def As(p:A7)(rs rb:Int):Prop:=AZ p/\B3 p rs rb
def NH(p:A7)(s:AH):Prop:=(∃i,i<8/\¬Nil (AK s i) (AW s i))/\∀i,i<8->Nil (AK s i) (AW s i)\/FM (p.s (AK s i).toNat)
def NG(p:A7)(s:AH):Prop:=(∃i,i<8/\¬Nil (AK s i) (AW s i))/\∀i,i<8->Nil (AK s i) (AW s i)\/NH p (p.s (AK s i).toNat)
def Rt(p:A7)(l:List (Int×Int)):Prop:=l.Nodup/\∀x,x∈l->¬Has p.hn p.h x.1
def Q2(p:A7)(rs rb:Int):Prop:=Nil rs rb\/(B8 p rs rb/\NG p (p.s rs.toNat)/\Rt p (AG p rs rb))
theorem Ey(b:AZ p)(h:B8 p xs xb):C5 p (p.s xs.toNat):=by
 obtain⟨c,d,e,f⟩:=h;rcases b.2.1 xs.toNat (by omega)with a | a
 ·have:=a.1;omega
 ·exact a
theorem Lc(h:C5 p s):s.kn=0\/s.kn=8:=by
 rcases h.2 with h | h
 ·exact Or.inl h.1
 ·exact Or.inr h.1
theorem Qk(a:AZ p)(h:B8 p xs xb):(p.s xs.toNat).kn=0\/(p.s xs.toNat).kn=8:=Lc (Ey a h)
theorem J5(h:C5 p s)(hi:i<8)(hn:¬Nil (AK s i) (AW s i)):B8 p (AK s i) (AW s i)/\AW s i<=s.birth:=by
 rcases h.2 with a | a
 ·exact absurd ⟨Sw a.1 i,Sv a.1 i⟩ hn
 ·rw[FE a.1 hi,FD a.1 hi]at hn ⊢;rcases a.2.2 i (by omega)with b | b
  ·exact absurd b hn
  ·exact b
theorem zFq(c:AZ p)(h:B8 p xs xb):FM (p.s xs.toNat)↔(p.s xs.toNat).kn=0:=by
 have b:=Ey c h;constructor
 ·exact fun h=>h.2.1
 ·intro d;rcases b.2 with a | a
  ·exact⟨b.1,a⟩
  ·omega
theorem UC(h:s.kn=0\/s.kn=8)(a:∃i,i<8/\¬Nil (AK s i) (AW s i)):s.kn=8:=by
 rcases h with h | h
 ·obtain⟨i,_,hi⟩:=a;exact absurd ⟨Sw h i,Sv h i⟩ hi
 ·exact h
theorem MN(k:AZ p)(h:B8 p rs rb):∀x,x∈AG p rs rb->B8 p x.1 x.2/\x.2<=rb:=by
 intro x a;unfold AG at a;split at a
 ·simp at a
 ·rw[List.mem_cons,Gf]at a;rcases a with rfl | ⟨i,hi,a⟩
  ·exact⟨h,by simp⟩
  ·have l:=Ey k h;have d:(p.s rs.toNat).birth=rb:=h.2.2.2;obtain⟨hn,a⟩:=I5.1 a;have b:=J5 l hi hn;rcases a with rfl | a
   ·exact⟨b.1,by rw[<-d];exact b.2⟩
   ·obtain⟨j,m,rfl,g⟩:=Gk.1 a;have f:=Ey k b.1;have c:=J5 f m g;have e:(p.s (AK (p.s rs.toNat) i).toNat).birth=AW (p.s rs.toNat) i:=b.1.2.2.2;have:=b.2;have:=c.2;exact⟨c.1,by show AW _ j<=rb;omega⟩
variable{l:List (Int×Int)}
theorem Qi(h:∀x,x∈l->B8 p x.1 x.2):(Bk l).Nodup↔l.Nodup:=by
 unfold Bk List.Nodup;rw[List.pairwise_map];constructor
 ·exact fun f=>f.imp (fun c e=>c (by rw[e]))
 ·intro f;refine List.Pairwise.imp_of_mem ?_ f;intro a b i j c e;apply c;have d:=(h a i).2.2.2;have g:=(h b j).2.2.2;rw[e]at d;obtain⟨k,m⟩:=a;obtain⟨n,o⟩:=b;simp only[Prod.mk.injEq];exact⟨e,by simp only at d g e;rw[<-d,<-g]⟩
theorem Nu(f:AZ p):Q2 p rs rb↔B3 p rs rb:=by
 by_cases g:Nil rs rb
 ·exact⟨fun _=>Or.inl g,fun _=>Or.inl g⟩
 have e:(rs,rb)∈AG p rs rb:=by unfold AG;rw[if_neg g];simp
 have m:∀i,i<8->¬Nil (AK (p.s rs.toNat) i) (AW (p.s rs.toNat) i)->(AK (p.s rs.toNat) i,AW (p.s rs.toNat) i)∈AG p rs rb:=fun i hi hn=>by
  unfold AG;rw[if_neg g,List.mem_cons,Gf];exact Or.inr ⟨i,hi,I5.2 ⟨hn,Or.inl rfl⟩⟩
 have n:∀i,i<8->¬Nil (AK (p.s rs.toNat) i) (AW (p.s rs.toNat) i)->∀x,x∈Eh (p.s (AK (p.s rs.toNat) i).toNat)->x∈AG p rs rb:=fun i hi hn x a=>by
  unfold AG;rw[if_neg g,List.mem_cons,Gf];exact Or.inr ⟨i,hi,I5.2 ⟨hn,Or.inr a⟩⟩
 constructor
 ·rintro(h | ⟨c,⟨q,E⟩,o⟩)
  ·exact Or.inl h
  ·right;have u:=Ey f c;have F:=UC (Lc u) q;refine⟨⟨c,by omega,o.2 _ e⟩,⟨fun i hi=>?_,q⟩,(Qi (fun x a=>(MN f c x a).1)).2 o.1⟩;by_cases hn:Nil (AK (p.s rs.toNat) i) (AW (p.s rs.toNat) i)
   ·exact Or.inl hn
   ·right;have A:=J5 u hi hn;have l:=Ey f A.1;obtain⟨k,t⟩:NH p (p.s (AK (p.s rs.toNat) i).toNat):=by
     rcases E i hi with h | h
     ·exact absurd h hn
     ·exact h
    have B:=UC (Lc l) k;refine⟨⟨A.1,by omega,o.2 _ (m i hi hn)⟩,fun j d=>?_,k⟩;by_cases b:Nil (AK (p.s (AK (p.s rs.toNat) i).toNat) j) (AW (p.s (AK (p.s rs.toNat) i).toNat) j)
    ·exact Or.inl b
    ·right;have v:=J5 l d b;refine⟨v.1,?_,o.2 _ (n i hi hn _ (Gk.2 ⟨j,d,rfl,b⟩))⟩;rcases t j d with h | h
     ·exact absurd h b
     ·exact h.2.1
 ·rintro(h | ⟨z,⟨y,q⟩,D⟩)
  ·exact Or.inl h
  ·right;have c:=z.1;have u:=Ey f c;have held:∀x,x∈AG p rs rb->¬Has p.hn p.h x.1:=fun x a=>by
    unfold AG at a;rw[if_neg g,List.mem_cons,Gf]at a;rcases a with rfl | ⟨i,hi,a⟩
    ·exact z.2.2
    ·obtain⟨hn,a⟩:=I5.1 a;rcases y i hi with h | ⟨w,r⟩
     ·exact absurd h hn
     ·rcases a with rfl | a
      ·exact w.2.2
      ·obtain⟨j,d,rfl,b⟩:=Gk.1 a;rcases r.1 j d with h | h
       ·exact absurd h b
       ·exact h.2.2
   refine⟨c,⟨q,fun i hi=>?_⟩,(Qi (fun x a=>(MN f c x a).1)).1 D,held⟩;rcases y i hi with h | ⟨w,r,C⟩
   ·exact Or.inl h
   ·refine Or.inr ⟨C,fun j d=>?_⟩;rcases r j d with h | h
    ·exact Or.inl h
    ·exact Or.inr ((zFq f h.1).2 h.2.1)
def FY(bs:Nat)(kb:Nat->Nat)(n:Nat)(f:Nat->AH)(k:Nat):Prop:=(0<n/\k=bs)\/∃i,i<n/\0<(f i).kn/\k=kb i
def Bq(w:World)(lo hi:Nat)(v0 v1:Value)(p:A7):Prop:=
 ∃(bs hb:Nat) (kb:Nat->Nat) (kv:Nat->Value),FF w bs kb kv v0 p.n p.s/\M1 kb p.n p.s/\Fe w hb v1 p.hn p.h/\(0<p.hn->¬FY bs kb p.n p.s hb)/\
  ∀k,FY bs kb p.n p.s k\/(0<p.hn/\k=hb)->lo<=k/\k<hi
variable{w:World}{lo hi:Nat}{v0 v1:Value}
theorem Bq.at(h:Bq w lo hi v0 v1 p):CD w lo hi v0 v1 p:=by
 obtain⟨e,j,k,kv,c,f,d,g,b⟩:=h;exact⟨c.at fun a=>⟨b _ (Or.inl (Or.inl ⟨a,rfl⟩)),fun i hi h=>b _ (Or.inl (Or.inr ⟨i,hi,h,rfl⟩))⟩,d.at fun a=>b _ (Or.inr ⟨a,rfl⟩)⟩
variable{w':World}
theorem Bq.A1(h:Bq w lo hi v0 v1 p)(t:Below w.heap.size w w'):Bq w' lo hi v0 v1 p:=by
 obtain⟨a,g,i,kv,b,c,d,e,f⟩:=h;exact⟨a,g,i,kv,b.A1 t,c,d.A1 t,e,f⟩
theorem Bq.AD{S:Nat->Prop}(h:Bq w lo hi v0 v1 p)(t:AC S w w')(hs:∀k,S k->k<lo\/hi<=k):Bq w' lo hi v0 v1 p:=by
 obtain⟨d,f,g,kv,j,l,m,o,e⟩:=h;have out:∀k,FY d g p.n p.s k\/(0<p.hn/\k=f)->¬S k:=fun k q r=>by
  have a:=e k q;have b:=hs k r;omega
 exact⟨d,f,g,kv,j.AD t (fun c=>out _ (Or.inl (Or.inl ⟨c,rfl⟩))) (fun i hi h=>out _ (Or.inl (Or.inr ⟨i,hi,h,rfl⟩))),l,m.AD t (fun c=>out _ (Or.inr ⟨c,rfl⟩)),o,e⟩
theorem Bq.wide{lo' hi':Nat}(h:Bq w lo hi v0 v1 p)(l:lo'<=lo)(m:hi<=hi'):Bq w lo' hi' v0 v1 p:=by
 obtain⟨a,g,j,kv,b,c,d,e,f⟩:=h;exact⟨a,g,j,kv,b,c,d,e,fun k i=>by have:=f k i;omega⟩
theorem Bq.form(h:Bq w lo hi v0 v1 p):∃a c b c',v0 = .slice a p.n c/\v1 = .slice b p.hn c':=by
 obtain⟨f,k,l,kv,⟨_,a,c,d,_⟩,g,⟨_,b,c',e,_,_⟩,i,j⟩:=h;exact⟨a,c,b,c',d,e⟩
theorem CD.form(h:CD w lo hi v0 v1 p):∃a c b c',v0 = .slice a p.n c/\v1 = .slice b p.hn c':=by
 obtain⟨⟨_,a,c,d,_⟩,⟨_,b,c',e,_⟩⟩:=h;exact⟨a,c,b,c',d,e⟩
def Tn(p:A7)(w:World)(e:Ending)(w':World):Prop:=∃v0 v1,e = .returned (.agg #[v0,v1])/\Bq w' w.heap.size w'.heap.size v0 v1 p/\Below w.heap.size w w'
def EW:AH:={birth:=0,kn:=0,ks:=fun _=>0,kb:=fun _=>0,data:=⟨#[]⟩}
def Cs(n:Nat):A7:={n:=n,s:=fun _=>EW,hn:=0,h:=fun _=>0}
variable{kb:Nat->Nat}
theorem zBD{bs:Nat}{k:Nat}:FY bs kb n (fun _=>EW) k↔0<n/\k=bs:=by
 constructor
 ·rintro(h | ⟨i,_,a,_⟩)
  ·exact h
  ·exact absurd a (by simp[EW])
 ·exact Or.inl
theorem zFc{g:Nat}(hn:n<=maxLen)(hv:∃a cap,v0 = .slice a n cap/\n<=cap/\(0<n->a=some ⟨g,0,none⟩/\lo<=g/\g<hi))
 (d:∀i,i<n->AO w g (0+i*3) (A0 0)/\AO w g (0+i*3+1) (A5)/\AO w g (0+i*3+2) (.string ⟨#[]⟩)) :
 Bq w lo hi v0 (A5) (Cs n):=by
 obtain⟨a,cap,rfl,c,e⟩:=hv;refine⟨g,0,fun _=>0,fun _=>A5,⟨hn,a,cap,rfl,c,fun b=>⟨0,(e b).1,fun i hi=>?_⟩⟩,fun i j _ _ _ b _=>absurd b (by simp[Cs,EW]),⟨Nat.zero_le _,none,0,rfl,Nat.le_refl _,fun h=>absurd h (Nat.lt_irrefl _),fun h=>absurd h (Nat.lt_irrefl _)⟩,fun h=>absurd h (Nat.lt_irrefl _),?_⟩
 ·exact⟨(d i hi).1,(d i hi).2.1,(d i hi).2.2,⟨Nat.zero_le _,none,0,rfl,Nat.le_refl _,fun h=>absurd h (Nat.lt_irrefl _)⟩,Nat.zero_le _,fun h=>absurd h (Nat.lt_irrefl _)⟩
 ·rintro k (h | h)
  ·obtain⟨b,rfl⟩:=zBD.1 h;exact(e b).2
  ·exact absurd h.1 (Nat.lt_irrefl _)
def Ce(s:AH):Nat:=s.kn+s.data.size
def DC(f:Nat->AH):Nat->Nat
 | 0=>0
 | k+1=>DC f k+Ce (f k)
def Ap(p:A7):Nat:=p.n+DC p.s p.n+p.hn
theorem U1(f:Nat->AH){j:Nat}(h:j<n):Ce (f j)<=DC f n:=by
 induction n with
 | zero=>omega
 | succ n ih=>
  show _<=DC f n+Ce (f n);by_cases e:j=n
  ·subst e;omega
  ·have:=ih (by omega);omega
theorem Xb:(Tryz.prog.info? 2).map (fun i=>(i.zero,i.size,i.bytes))=some (some (A0 0),1,8):=by kernel_rfl
theorem zGq:(Tryz.prog.info? 38).map (fun i=>(i.zero,i.size,i.bytes))=some (some (.agg #[A0 0,A0 0]),2,16):=by kernel_rfl
theorem Xc:(Tryz.prog.info? 94).map (fun i=>(i.zero,i.size,i.bytes))=some (some (.agg #[A0 0,A5,.string ⟨#[]⟩]),3,48):=by kernel_rfl
def Fu(zs:Array Value)(n:Nat):Array Value:=madeCells zs (n*zs.size)
theorem zAE(t e:TypeId)(z:Value)(size bytes:Nat)(l:Tryz.prog.underlying t=some (.slice e))(a:(Tryz.prog.info? e).map (fun i=>(i.zero,i.size,i.bytes))=some (some z,size,bytes))(hs:z.cells.size=size)
 (n:Nat) (hn:n<=1048576) (k:bytes<=1000) (w:World):(Instr.makeSlice t (A0 (n:Int)) (A0 (n:Int))).run Tryz.prog w = .ok (.slice (some ⟨w.heap.size,0,none⟩) n n) (w.alloc (.cells (Fu z.cells n) e)):=by
 obtain⟨i,hi,b⟩:=Option.map_eq_some_iff.1 a;simp only[Prod.mk.injEq]at b;obtain⟨m,g,c⟩:=b;have d:(bytes:Int)*(n:Int)<=281474976710656:=by
  have h:bytes*n<=1000*1048576:=Nat.mul_le_mul k hn;have j:((bytes*n:Nat):Int)<=((1000*1048576:Nat):Int):=Int.ofNat_le.2 h;rw[Int.natCast_mul]at j;omega
 have f:=run_make (P:=Tryz.prog) w t e i z l hi m .i64 .i64 n n (by omega) (Int.le_refl _) (by rw[c];exact d) (by omega);rw[g,<-hs]at f;simp only[Int.toNat_natCast]at f;exact f
variable{α:Type}
theorem s1(l:List α)(i:Nat)(a:α):l.toArray.setIfInBounds i a=(l.set i a).toArray:=List.setIfInBounds_toArray ..
theorem s2(x:α)(l:List α)(a:α):(x :: l).set 0 a=a :: l:=rfl
theorem s3(x:α)(l:List α)(i:Nat)(a:α):(x :: l).set (i+1) a=x :: l.set i a:=rfl
def JA:List Oper->Nat->Option Oper
 | [],_=>none
 | o :: _,0=>some o
 | _ :: l,n+1=>JA l n
theorem VW:∀(l:List Oper) (i:Nat),l[i]?=JA l i
 | [],_=>rfl
 | _ :: _,0=>rfl
 | _ :: l,n+1=>by simpa[JA]using VW l n
theorem EC{a:Array Oper}{o:Oper}(h:JA a.toList i=some o):a[i]?=some o:=by
 rw[<-h,<-VW,Array.getElem?_toList]
section
variable {P : Program} {md : Region.Mode} {ops : Array Oper} {Q : Exit -> Act -> World -> Prop} {S : World -> Prop}
variable{o:Oper}{b l':Array Bool}{a:Act}
theorem tk(i:Nat){v:Value}{d:Nat}{a':Act}(hi:JA ops.toList i=some o:=by exact rfl)
 (e:(Region.noSelect ops && (Region.free md ops b i && (Region.ready md ops b).contains i))=true:=by kernel_rfl)
 (m:Region.wanted o (yielded ops a.tmps)=true:=by exact rfl) (j:S w:=by assumption)
 (n:∀w,S w->(execOp a.eval o).run P w = .ok (.value v) w:=by(intro w f;(try dsimp only at f);go_simp;try with_reducible rfl))
 (l:b.setIfInBounds i true=l':=by((try simp only[s1,s2,s3]);exact rfl))
 (k:a.put o.dst v=a':=by((try simp only[Act.put,s1,s2,s3]);exact rfl))
 (g:∀c a w,Q (.panic c) (a.put o.dst v) w->Q (.panic c) a w:=by exact fun _ _ _ h=>h)
 (h:wpAnyH P md ops Q S d l' a' w):wpAnyH P md ops Q S (d+1) b a w:=by
 simp only[Bool.and_eq_true]at e;subst l k;exact wpAnyH_take (EC hi) e.1 e.2.1 e.2.2 g (Or.inl ⟨m,n⟩) j h
theorem ts(i:Nat){d:Nat}{a':Act}(hi:JA ops.toList i=some o:=by exact rfl)
 (e:(Region.noSelect ops && (Region.free md ops b i && (Region.ready md ops b).contains i))=true:=by kernel_rfl)
 (l:Region.wanted o (yielded ops a.tmps)=false:=by exact rfl) (g:S w:=by assumption)
 (k:b.setIfInBounds i true=l':=by((try simp only[s1,s2,s3]);exact rfl))
 (j:a.put o.dst undef=a':=by((try simp only[Act.put,s1,s2,s3]);exact rfl))
 (f:∀c a w,Q (.panic c) (a.put o.dst undef) w->Q (.panic c) a w:=by exact fun _ _ _ h=>h)
 (h:wpAnyH P md ops Q S d l' a' w):wpAnyH P md ops Q S (d+1) b a w:=by
 simp only[Bool.and_eq_true]at e;subst k j;exact wpAnyH_take (EC hi) e.1 e.2.1 e.2.2 f (Or.inr ⟨l,rfl⟩) g h
variable{c:Nat}
theorem rd(rs:List Nat)(h:AllReadyH P md ops Q S c b a w rs)
 (e:Region.ready md ops b=rs:=by kernel_rfl) (d:rs≠[]:=by simp):wpAnyH P md ops Q S (c+1) b a w:=wpAnyH_ready e d h
theorem rc{rs:List Nat}
 (h:∀d:Act->World->Prop,Shut (∀a w,S w->(S w->wpAnyH P md ops Q S c (b.setIfInBounds i true) a w)->d a w)->if Region.wanted o (yielded ops a.tmps)=true then Oper.wp P o a w d Q else d (a.put o.dst undef) w)
 (hs:AllReadyH P md ops Q S c b a w rs) (e:JA ops.toList i=some o:=by exact rfl):AllReadyH P md ops Q S c b a w (i :: rs):=AllReadyH.cons (EC e) h hs
end
structure zHt (p:Prop):Prop where
 out:p
theorem zEz{A B:Prop}(f:zHt A->B)(h:A):B:=f ⟨h⟩
theorem AF{P:Prop}(h:P):Hid P:=h
theorem Se(w:World)(a b d e:Value)(c f:TypeId) :
 Ad ((w.alloc (.cells #[a,b] c)).alloc (.cells #[d,e] f)) w.heap.size a b/\Ad ((w.alloc (.cells #[a,b] c)).alloc (.cells #[d,e] f)) (w.heap.size+1) d e/\
 Below w.heap.size w ((w.alloc (.cells #[a,b] c)).alloc (.cells #[d,e] f))/\((w.alloc (.cells #[a,b] c)).alloc (.cells #[d,e] f)).heap.size=w.heap.size+2:=by
 refine⟨(Ad.new w a b c).A1 (AB _ _),?_,A9 (AB _ _) (AB _ _),by simp⟩;have:=Ad.new (w.alloc (.cells #[a,b] c)) d e f;rw[World.size_alloc]at this;exact this
def zR(p:A7)(Low:AH->Prop)(s:AH):Prop:=(∃i,i<8/\¬Nil (AK s i) (AW s i))/\∀i,i<8->Nil (AK s i) (AW s i)\/Low (p.s (AK s i).toNat)
def Lj(p:A7)(L:Int)(Low:AH->Prop):Prop:=∀(v:Value) (lo hi:Nat) (xs xb:Int) (w:World),CL w lo hi v p.n p.s->B8 p xs xb->
 Calls Tryz.prog 168 #[v,.agg #[A0 xs,A0 xb],A0 L] w fun e w'=>AJ (Low (p.s xs.toNat)) e/\Below w.heap.size w w'
theorem Vz(s:AH):F2 (BC s) (fun _=>0)=true↔¬∃i,i<8/\¬Nil (AK s i) (AW s i):=by
 rw[QN];constructor
 ·rintro h ⟨i,hi,hn⟩;exact hn (h i hi)
 ·intro h i hi;by_cases hn:Nil (AK s i) (AW s i)
  ·exact hn
  ·exact absurd ⟨i,hi,hn⟩ h
theorem zA1(p:A7):Lj p 2 FM:=by
 intro v lo hi xs xb w hs h;have o:=AF hs;obtain⟨_,a,c,rfl,_⟩:=id hs;obtain⟨k,rfl⟩:=Int.eq_ofNat_of_zero_le h.2.1;have r:k<p.n:=by have:=h.2.2.1;omega
 have u:(k:Int)<(p.n:Int):=by omega
 have i:=AB w (.cells #[A0 (k:Int),A0 xb] 38);obtain⟨⟨B,C⟩,⟨D,E⟩⟩:=Ad.new w (A0 (k:Int)) (A0 xb) 38;obtain⟨b,off,x,kc,rfl,g⟩:=(o.out.A1 i).cells r;have l:=AF g;obtain⟨y,q1,z,_⟩:=g;clear hs h;go_enter Tryz.func168,Tryz.ntmps168;go_wp2_with fail;have d:=AB (w.alloc (.cells #[A0 (k:Int),A0 xb] 38)) (.cells #[A0 (p.s k).birth,.slice x (p.s k).kn kc,.string (p.s k).data] 94);refine(YD _ _ _ lo hi (p.s k) _ (l.out.slot.A1 d)).mono ?_;rintro e A ⟨⟨t,rfl,j⟩,f⟩;have q:=A9 (A9 i d) f;have m:=AF j;clear j f;go_wp2;go_ret;refine⟨⟨t,rfl,?_⟩,q⟩;rw[Int.toNat_natCast];exact m.out
theorem Xl(p:A7)(L:Int)(x:AH->Prop)(Q:AZ p)(hL:0<=L/\L<2)(u:Lj p (L+1) x):Lj p L (zR p x):=by
 intro v lo hi xs xb w hs C;have A:=AF u;have HR:=AF Q;have V:=AF hs;have HP:=AF C;have O:=AF (Ey Q C);obtain⟨_,a,c,rfl,_⟩:=id hs;obtain⟨k,rfl⟩:=Int.eq_ofNat_of_zero_le C.2.1;rw[Int.toNat_natCast]at O;have hk:k<p.n:=by have:=C.2.2.1;omega
 have gA:(k:Int)<(p.n:Int):=by omega
 have eA:(L == 2)=false:=by simp;omega
 have R:=AB w (.cells #[A0 (k:Int),A0 xb] 38);obtain⟨⟨x0,x1⟩,⟨x2,x3⟩⟩:=Ad.new w (A0 (k:Int)) (A0 xb) 38;obtain⟨b,off,ka,kc,rfl,F⟩:=(V.out.A1 R).cells hk;have T:=AF F;obtain⟨q0,q1,q2,_⟩:=F;clear hs C u Q;go_enter Tryz.func168,Tryz.ntmps168;go_wp2_with fail;have y:=AB (w.alloc (.cells #[A0 (k:Int),A0 xb] 38)) (.cells #[A0 (p.s k).birth,.slice ka (p.s k).kn kc,.string (p.s k).data] 94);refine(OO _ _ _ lo hi (p.s k) _ (T.out.slot.A1 y) (Lc O.out)).mono ?_;rintro e g ⟨rfl,D⟩;have X:=A9 (A9 R y) D;clear D R y x0 x1 x2 x3 q0 q1 q2 T;have d:Hid ((Tryz.prog.info? 121).map (·.size)=some (B9 (p.s k)).size):=by
  show _=_;rw[B9,D4];exact GV
 have W:Hid ((#[Value.int .i64 0,Value.int .i64 0,Value.int .i64 0,Value.int .i64 0,Value.int .i64 0,Value.int .i64 0,Value.int .i64 0,Value.int .i64 0,Value.int .i64 0,Value.int .i64 0,Value.int .i64 0,Value.int .i64 0,Value.int .i64 0,Value.int .i64 0,Value.int .i64 0,Value.int .i64 0]:Array Value)=Aj (fun _=>0)):=rfl;have Y:∀w,(binOp .eql 121 (.agg (B9 (p.s k))) (.agg #[Value.int .i64 0,Value.int .i64 0,Value.int .i64 0,Value.int .i64 0,Value.int .i64 0,Value.int .i64 0,Value.int .i64 0,Value.int .i64 0,Value.int .i64 0,Value.int .i64 0,Value.int .i64 0,Value.int .i64 0,Value.int .i64 0,Value.int .i64 0,Value.int .i64 0,Value.int .i64 0])).run Tryz.prog w = .ok (.bool (F2 (BC (p.s k)) (fun _=>0))) w:=fun w=>Pc (BC (p.s k)) (fun _=>0) w
 have r:(g.alloc (.cells (B9 (p.s k)) 121)).heap[g.heap.size]?=some (.cells (B9 (p.s k)) 121 (0,0)):=heap_alloc_last _ _;have J:=AF r;have B:=A9 X (AB g (.cells (B9 (p.s k)) 121));clear r X;by_cases I:F2 (BC (p.s k)) (fun _=>0)=true
 ·have N:=AF ((Vz _).1 I);go_wp2_with (first
   | (refine wpList_store_row rfl 121 (.tmp 8) (.tmp 20) rfl g.heap.size (B9 (p.s k)) rfl rfl 121 #[Value.int .i64 0,Value.int .i64 0,Value.int .i64 0,Value.int .i64 0,Value.int .i64 0,Value.int .i64 0,Value.int .i64 0,Value.int .i64 0,Value.int .i64 0,Value.int .i64 0,Value.int .i64 0,Value.int .i64 0,Value.int .i64 0,Value.int .i64 0,Value.int .i64 0,Value.int .i64 0] (heap_alloc_last _ _) d.out (by rw[B9,D4];rfl) (I7 _) ?_;rw[World.setRow_alloc_new])
   | (refine wpList_load_row rfl 121 (.tmp 8) rfl g.heap.size rfl 121 (B9 (p.s k)) (0,0) _ J.out FP rfl d.out ?_))
  go_ret;exact⟨AJ.no fun h=>N.out (by rw[Int.toNat_natCast]at h;exact h.1),B⟩
 ·have N:Hid (∃i,i<8/\¬Nil (AK (p.s k) i) (AW (p.s k) i)):=by
   by_cases h:∃i,i<8/\¬Nil (AK (p.s k) i) (AW (p.s k) i)
   ·exact h
   ·exact absurd ((Vz _).2 h) I
  have jA:F2 (BC (p.s k)) (fun _=>0)=false:=(by simpa using I);clear I;go_wp2_with (first
   | (refine wpList_store_row rfl 121 (.tmp 8) (.tmp 20) rfl g.heap.size (B9 (p.s k)) rfl rfl 121 #[Value.int .i64 0,Value.int .i64 0,Value.int .i64 0,Value.int .i64 0,Value.int .i64 0,Value.int .i64 0,Value.int .i64 0,Value.int .i64 0,Value.int .i64 0,Value.int .i64 0,Value.int .i64 0,Value.int .i64 0,Value.int .i64 0,Value.int .i64 0,Value.int .i64 0,Value.int .i64 0] (heap_alloc_last _ _) d.out (by rw[B9,D4];rfl) (I7 _) ?_;rw[World.setRow_alloc_new])
   | (refine wpList_load_row rfl 121 (.tmp 8) rfl g.heap.size rfl 121 (B9 (p.s k)) (0,0) _ J.out FP rfl d.out ?_))
  have kA:g.heap.size<(g.alloc (.cells (B9 (p.s k)) 121)).heap.size:=by rw[World.size_alloc];exact Nat.lt_succ_self _
  go_loopw [24] (fun i wr=>∃j:Nat,j<=8/\i=A0 j/\(∀m,m<j->Nil (AK (p.s k) m) (AW (p.s k) m)\/x (p.s (AK (p.s k) m).toNat))/\wr.heap[g.heap.size]?=some (.cells (B9 (p.s k)) 121 (0,0))/\Below w.heap.size w wr) (fun i _=>8 - (intOf i).toNat)
  case atStart=>exact⟨0,Nat.zero_le _,rfl,fun m hm=>absurd hm (Nat.not_lt_zero _),J.out,B⟩
  case round=>
   obtain⟨j,hj,rfl,q,hK,H⟩:=hrel;have f:=AF q;have l:=AF hK;have G:g.heap.size<wr.heap.size:=(Array.getElem?_eq_some_iff.1 hK).1;clear q hK;by_cases o:j<8
   ·have Z:(j:Int)<8:=(by omega);obtain⟨y0,y1⟩:=Az (i:=j*2) l.out (EM (BC (p.s k)) (by omega));obtain⟨y2,y3⟩:=Az (i:=j*2+1) l.out (EM (BC (p.s k)) (by omega));by_cases hn:Nil (AK (p.s k) j) (AW (p.s k) j)
    ·have M:=AF hn;rw[show BC (p.s k) (j*2)=0 from hn.1]at y0;rw[show BC (p.s k) (j*2+1)=0 from hn.2]at y2;clear hn;go_wp2;go_roundw
     case rel=>exact⟨j+1,by omega,by go_num,Br (n:=8) o f.out (Or.inl M.out),l.out,H⟩
     case measure=>simp[intOf];omega
    ·have M:=AF hn;have S:=AF (J5 O.out o hn).1;have e0:(BC (p.s k) (j*2) == 0)=false\/(BC (p.s k) (j*2) == 0)=true/\(BC (p.s k) (j*2+1) == 0)=false:=by
      by_cases h:BC (p.s k) (j*2)=0
      ·right;refine⟨by simp[h],?_⟩;have:BC (p.s k) (j*2+1)≠0:=fun h'=>hn ⟨h,h'⟩
       simp[this]
      ·left;simp[h]
     clear hn;rcases e0 with e0 | ⟨e0,e1⟩
     all_goals
      go_wp2_with fail;refine(A.out _ lo hi (BC (p.s k) (j*2)) (BC (p.s k) (j*2+1)) _ (V.out.A1 H) S.out).mono ?_;rintro e w2 ⟨⟨t,rfl,ht⟩,z⟩;have U:=AF ht;have K:=AF ((z.block _ G).trans l.out);have E:=A9 H z;clear ht z y0 y1 y2 y3;cases t
      ·go_wp2;go_ret;refine⟨AJ.no fun h=>?_,E⟩;rw[Int.toNat_natCast]at h;rcases h.2 j o with P | P
       ·exact M.out P
       ·exact absurd (U.out.2 P) (by simp)
      ·go_wp2;go_roundw
       case rel=>exact⟨j+1,by omega,by go_num,Br (n:=8) o f.out (Or.inr (U.out.1 trivial)),K.out,E⟩
       case measure=>simp[intOf];omega
   ·obtain rfl:j=8:=(by omega);go_wp2;go_ret;exact⟨AJ.yes (by rw[Int.toNat_natCast];exact⟨N.out,f.out⟩),H⟩
theorem zA0(p:A7)(a:AZ p):Lj p 1 (NH p):=Xl p 1 FM a (by omega) (zA1 p)
theorem Xk(p:A7)(a:AZ p):Lj p 0 (NG p):=Xl p 0 (NH p) a (by omega) (zA0 p a)
def zGV(s:AH)(w:World)(e:Ending)(w':World):Prop:=
 ∃kv kb,e = .returned (.agg #[A0 s.birth,kv,.string s.data])/\CS w' kb kv s.kn s.ks s.kb/\(0<s.kn->w.heap.size<=kb/\kb<w'.heap.size)/\Below w.heap.size w w'
def kc(f g:Nat->Int):Nat->List Value
 | 0=>[]
 | k+1=>kc f g k ++ [A0 (f k),A0 (g k)]
theorem KH(f g:Nat->Int)(k:Nat):(kc f g k).length=k*2:=by
 induction k with
 | zero=>rfl
 | succ k ih=>simp[kc,ih];omega
theorem S4(f g:Nat->Int)(k i r:Nat)(hi:i<k)(a:r<2):(kc f g k)[i*2+r]? = [Value.int .i64 (f i),A0 (g i)][r]?:=by
 induction k with
 | zero=>omega
 | succ k ih=>
  unfold kc;by_cases e:i<k
  ·rw[List.getElem?_append_left (by rw[KH];omega)];exact ih e
  ·obtain rfl:i=k:=(by omega);rw[List.getElem?_append_right (by rw[KH];omega),KH];congr 1;omega
theorem Zq(f g:Nat->Int)(k:Nat):∀u∈kc f g k,u.oneCell'=true:=by
 induction k with
 | zero=>intro u a;simp[kc]at a
 | succ k ih=>
  intro u a;simp only[kc,List.mem_append,List.mem_cons,List.not_mem_nil,or_false]at a;rcases a with a | rfl | rfl
  ·exact ih u a
  ·rfl
  ·rfl
variable{b:Nat}{f g:Nat->Int}
theorem Ui{off:Nat}(h:∀i,i<n->w.cell? ⟨b,off+i*2,none⟩=some (A0 (f i))/\w.cell? ⟨b,off+i*2+1,none⟩=some (A0 (g i))) :
 ∀j u,(kc f g n)[j]?=some u->w.cell? ((⟨b,off,none⟩:Addr).add j)=some u:=by
 intro j u d;have k:j<n*2:=by
  have:=(List.getElem?_eq_some_iff.1 d).1
  rwa [KH]at this
 have a:(⟨b,off,none⟩:Addr).add j=⟨b,off+j,none⟩:=by unfold Addr.add;split<;>simp_all
 rw[a];obtain⟨c0,c1⟩:=h (j / 2) (by omega);have e:=S4 f g n (j / 2) (j % 2) (by omega) (by omega);rw[show j / 2*2+j % 2=j by omega,d]at e;rcases(by omega:j % 2=0\/j % 2=1)with c | c
 ·rw[c]at e;simp at e;subst e;rw[show off+j=off+j / 2*2 by omega];exact c0
 ·rw[c]at e;simp at e;subst e;rw[show off+j=off+j / 2*2+1 by omega];exact c1
variable{base e:Nat}{v:Value}
theorem Yv(l:n<=maxLen)(h:w.ownsRow base e 2 v n (kc f g n)):∃k,CS w k v n f g/\(0<n->base<=k/\k<w.heap.size):=by
 by_cases d:0<n
 ·obtain⟨gb,cap,rfl,c,m,j,b⟩:=FI h d;refine⟨gb,⟨l,_,cap,rfl,c,fun _=>⟨0,rfl,fun i hi=>⟨?_,?_⟩⟩⟩,fun _=>⟨m,j⟩⟩
  ·have:=b (i*2+0) _ (S4 f g n i 0 hi (by omega));simpa using this
  ·have:=b (i*2+1) _ (S4 f g n i 1 hi (by omega));simpa using this
 ·obtain⟨a,cap,rfl,c⟩:=Bw h;exact⟨0,⟨l,a,cap,rfl,c,fun h=>absurd h d⟩,fun h=>absurd h d⟩
variable{P:Program}
theorem Rp(base:Nat)(t ty e:TypeId)(i:TypeInfo)(size c:Nat)(b:Option Addr)(f:P.underlying t=some (.slice e))(hi:P.info? e=some i)
 (v:Value) (n:Nat) (xs:List Value) (a:w.ownsRow base e size v n xs) :
 (Builtin.append_ #[t,t] ty #[v,.slice b 0 c]).run P w = .ok v w:=by
 rcases a.2 with⟨rfl,rfl⟩ | ⟨g,cap,h,rfl,_,_,d,_⟩
 ·cases b<;>simp[Builtin.append_,run_underlying f,sizeOf,typeInfo,hi,Builtin.lenOf,Builtin.firstCells,loadCells,loadCellsFrom]
 ·cases b<;>simp[Builtin.append_,run_underlying f,sizeOf,typeInfo,hi,Builtin.lenOf,Builtin.firstCells,d,storeCells,loadCells,loadCellsFrom]
variable{rest:List Oper}{Q:Exit->Act->World->Prop}
theorem zDG{f:Array Oper}{o:Oper}{a:Act}(g:o.guard=none)(s x:Operand)(t:TypeId)
 (l:o.op = .call {callee:=.builtin .append,args:=#[s,x],argTypes:=#[t,t]})
 (base:Nat) (e:TypeId) (i:TypeInfo) (size c m:Nat) (j:Option Addr) (p:P.underlying t=some (.slice e)) (hi:P.info? e=some i)
 (v:Value) (n:Nat) (xs:List Value) (hs:a.eval s=v) (b:w.ownsRow base e size v n xs) (k:m=0) (q:a.eval x = .slice j m c)
 (h:wpList P f Q rest (a.put o.dst v) w):wpList P f Q (o :: rest) a w:=by
 subst k;refine wpList_plain g fun K hK=>?_
 have d:=Rp (P:=P) (w:=w) base t o.type e i size c j p hi v n xs b;unfold Oper.wp;simp[execOp,l,resolve,invoke,builtin,hs,q,d,Result.andThen];exact hK _ _ h
theorem Lw:(Tryz.prog.info? 38).map (fun i=>(i.zero,i.size,i.bytes))=some (some (.agg #[A0 0,A0 0]),2,16):=by kernel_rfl
def sc(f:Nat->AH)(kv:Nat->Value):Nat->List Value
 | 0=>[]
 | k+1=>sc f kv k ++ [A0 (f k).birth,kv k,.string (f k).data]
theorem Gu(f:Nat->AH)(kv:Nat->Value)(k:Nat):(sc f kv k).length=k*3:=by
 induction k with
 | zero=>rfl
 | succ k ih=>simp[sc,ih];omega
theorem IT(f:Nat->AH)(kv:Nat->Value)(k i r:Nat)(hi:i<k)(a:r<3):(sc f kv k)[i*3+r]? = [Value.int .i64 (f i).birth,kv i,.string (f i).data][r]?:=by
 induction k with
 | zero=>omega
 | succ k ih=>
  unfold sc;by_cases e:i<k
  ·rw[List.getElem?_append_left (by rw[Gu];omega)];exact ih e
  ·obtain rfl:i=k:=(by omega);rw[List.getElem?_append_right (by rw[Gu];omega),Gu];congr 1;omega
theorem qF(f:Nat->AH)(kv:Nat->Value)(k:Nat)(h:∀i,i<k->(kv i).oneCell'=true):∀u∈sc f kv k,u.oneCell'=true:=by
 induction k with
 | zero=>intro u a;simp[sc]at a
 | succ k ih=>
  intro u a;simp only[sc,List.mem_append,List.mem_cons,List.not_mem_nil,or_false]at a;rcases a with a | rfl | rfl | rfl
  ·exact ih (fun i hi=>h i (by omega)) u a
  ·rfl
  ·exact h k (by omega)
  ·rfl
variable{w1:World}
theorem ZP(h:Below w.heap.size w w1)(row:Option Nat):w.grownBy w1 row:=⟨h.os,h.tape,h.output,h.size,fun k a _=>h.block k a⟩
def ic(f:Nat->Int):Nat->List Value
 | 0=>[]
 | k+1=>ic f k ++ [A0 (f k)]
theorem Il(f:Nat->Int)(k:Nat):(ic f k).length=k*1:=by
 induction k with
 | zero=>rfl
 | succ k ih=>simp[ic,ih]
theorem Rr(f:Nat->Int)(k i:Nat)(hi:i<k):(ic f k)[i]?=some (Value.int .i64 (f i)):=by
 induction k with
 | zero=>omega
 | succ k ih=>
  unfold ic;by_cases e:i<k
  ·rw[List.getElem?_append_left (by rw[Il];omega)];exact ih e
  ·obtain rfl:i=k:=(by omega);rw[List.getElem?_append_right (by rw[Il];omega),Il];simp
theorem zI9(f:Nat->Int)(k:Nat):∀u∈ic f k,u.oneCell'=true:=by
 induction k with
 | zero=>intro u a;simp[ic]at a
 | succ k ih=>
  intro u a;simp only[ic,List.mem_append,List.mem_cons,List.not_mem_nil,or_false]at a;rcases a with a | rfl
  ·exact ih u a
  ·rfl
theorem add_lit(b off j:Nat):(⟨b,off,none⟩:Addr).add j=⟨b,off+j,none⟩:=by unfold Addr.add;split<;>simp_all
theorem zED{off:Nat}(h:∀i,i<n->w.cell? ⟨b,off+i,none⟩=some (A0 (f i))) :
 ∀j u,(ic f n)[j]?=some u->w.cell? ((⟨b,off,none⟩:Addr).add j)=some u:=by
 intro j u c;have a:j<n:=by
  have:=(List.getElem?_eq_some_iff.1 c).1;rw[Il]at this;omega
 rw[Rr f n j a]at c;rw[add_lit,h j a];exact c
variable{xs:List Value}
theorem Tx{g cap:Nat}(h:w.ownsRow base e 1 (.slice (some ⟨g,0,none⟩) n cap) n xs)(c:0<n):0<n/\(some ⟨g,0,none⟩:Option Addr)=some ⟨g,0,none⟩/\cap<=maxLen/\∃a,w.heap[g]?=some (.cells a e (0,0))/\a.size=cap:=by
 obtain⟨_,⟨h,rfl⟩ | ⟨g',b,a,hv,_,i,_,d,f,_⟩⟩:=h
 ·omega
 ·simp only[Value.slice.injEq,Option.some.injEq,Addr.mk.injEq,and_true,true_and]at hv;obtain⟨rfl,rfl⟩:=hv;exact⟨c,rfl,d,a,i,by simpa using f⟩
theorem zCF(j:n<=maxLen)(h:w.ownsRow base 2 1 v n (ic f n))(l:n=0->∃a,v = .slice a 0 0):∃d,Fe w d v n f/\(0<n->base<=d/\d<w.heap.size):=by
 by_cases g:0<n
 ·obtain⟨gb,cap,rfl,c,d,e,b⟩:=FI h g;refine⟨gb,⟨j,_,cap,rfl,c,fun _=>⟨0,rfl,fun i hi=>?_⟩,fun _=>?_⟩,fun _=>⟨d,e⟩⟩
  ·have:=b i _ (Rr f n i hi);simpa using this
  ·exact Tx h g
 ·obtain⟨a,cap,rfl,c⟩:=Bw h;exact⟨0,⟨j,a,cap,rfl,c,fun h=>absurd h g,fun e=>by obtain⟨m,k⟩:=l (by omega);simp only[Value.slice.injEq]at k;omega⟩,fun h=>absurd h g⟩
theorem AT{P:Prop}(h:P):Hid P:=h
theorem Jt{y:Array Oper}{o:Oper}{a:Act}(r:o.guard=none)(s x:Operand)(t:TypeId)
 (L:o.op = .call {callee:=.builtin .append,args:=#[s,x],argTypes:=#[t,t]})
 (base:Nat) (e:TypeId) (i:TypeInfo) (z:Value) (size bytes:Nat) (M:P.underlying t=some (.slice e)) (hi:P.info? e=some i) (V:i.zero=some z)
 (q:i.size=size) (E:i.bytes=bytes) (J:z.cells.size=size) (I:0<size)
 (v:Value) (n:Nat) (xs:List Value) (hs:a.eval s=v) (g:w.ownsRow base e size v n xs)
 (B:Option Addr) (m c:Nat) (d:List Value) (N:a.eval x = .slice B m c) (F:d.length=m*size) (T:∀u∈d,u.oneCell'=true)
 (f:0<m->∃b off,B=some ⟨b,off,none⟩/\∀j u,d[j]?=some u->w.cell? ⟨b,off+j,none⟩=some u)
 (D:n+m<=maxLen) (k:(n+m)*bytes<=140737488355328) (p:base<=w.heap.size)
 (h:∀A w',w'.ownsRow base e size A (n+m) (xs ++ d)->w.grownBy w' v.ownBlock->(m=0->A=v)->wpList P y Q rest (a.put o.dst A) w'):wpList P y Q (o :: rest) a w:=by
 by_cases l:m=0
 ·have H:d = []:=List.eq_nil_of_length_eq_zero (by rw[F,l,Nat.zero_mul]);exact zDG r s x t L base e i size c m B M hi v n xs hs g l N (h v w (by subst l;subst H;simpa using g) ⟨rfl,rfl,rfl,Nat.le_refl _,fun _ _ _=>rfl⟩ (fun _=>rfl))
 cases B with
 | none=>
  obtain⟨b,off,C,_⟩:=f (by omega);simp at C
 | some ad=>
  refine wpList_append_own w r s x t L base e i z size bytes M hi V q E J I v n xs hs g ad m c d N F (fun j u K=>?_) T D k p (fun A w' O R _=>h A w' O R (fun e=>absurd e l));have S:0<m:=by
   have:=(List.getElem?_eq_some_iff.1 K).1;rw[F]at this;rcases Nat.eq_zero_or_pos m with G | G
   ·rw[G,Nat.zero_mul]at this;omega
   ·exact G
  obtain⟨b,off,C,U⟩:=f S;simp only[Option.some.injEq]at C;subst C;rw[add_lit];exact U j u K
variable{c:Nat}
theorem TO(h:DA w lo hi v n f){a:Option Addr}(hv:v = .slice a n c)(i:Below w.heap.size w w') :
 0<n->∃b off,a=some ⟨b,off,none⟩/\∀j u,(ic f n)[j]?=some u->w'.cell? ⟨b,off+j,none⟩=some u:=by
 obtain⟨_,m,c0,d,_,g⟩:=h;subst hv;simp only[Value.slice.injEq,true_and]at d;obtain⟨rfl,rfl⟩:=d;intro hn;obtain⟨b,off,e,_,_,k⟩:=g hn;refine⟨b,off,e,fun j u l=>?_⟩;have:=zED k j u l;rw[add_lit]at this;exact(i.cell (AV this)).trans this
theorem zIo(w:World)(x y z:Value)(t:TypeId):∀j u,[x,y,z][j]?=some u->(w.alloc (.cells #[x,y,z] t)).cell? ((⟨w.heap.size,0,none⟩:Addr).add j)=some u:=by
 intro j u a
 match j,a with
 | 0,a=>simp at a;subst a;simp[Addr.add]
 | 1,a=>simp at a;subst a;simp[Addr.add]
 | 2,a=>simp at a;subst a;simp[Addr.add]
 | (j+3),a=>simp at a
theorem zIi(x:Int)(a:Option Addr)(n c:Nat)(s:ByteArray):∀u∈[Value.int .i64 x,.slice a n c,.string s],u.oneCell'=true:=by
 intro u b;simp only[List.mem_cons,List.not_mem_nil,or_false]at b;rcases b with rfl | rfl | rfl<;>rfl
theorem zCZ(j:n<=maxLen)(h:w.ownsRow base 2 1 v n (ic f n))(l:n=0->∃a,v = .slice a 0 0):∃e,Fe w e v n f/\(0<n->v.ownBlock=some e):=by
 by_cases d:0<n
 ·obtain⟨gb,cap,rfl,c,e,g,b⟩:=FI h d;refine⟨gb,⟨j,_,cap,rfl,c,fun _=>⟨0,rfl,fun i hi=>?_⟩,fun _=>?_⟩,fun _=>rfl⟩
  ·have:=b i _ (Rr f n i hi);simpa using this
  ·exact Tx h d
 ·obtain⟨a,cap,rfl,c⟩:=Bw h;exact⟨0,⟨j,a,cap,rfl,c,fun h=>absurd h d,fun g=>by obtain⟨m,k⟩:=l (by omega);simp only[Value.slice.injEq]at k;omega⟩,fun h=>absurd h d⟩
theorem zDr{B M bs:Nat}{kv:Nat->Value}(o:FF w' bs kb kv v0 p.n p.s)(q:M1 kb p.n p.s)(i:∀k,FY bs kb p.n p.s k->M<=k/\k<w'.heap.size)(t:p.hn<=maxLen)
 (j:w'.ownsRow base 2 1 v1 p.hn (ic p.h p.hn)) (l:∀k,v1.ownBlock=some k->B<=k/\(k<M\/w'.heap.size<=k\/(k<w'.heap.size/\¬FY bs kb p.n p.s k))) (v:B<=M) (u:p.hn=0->∃a,v1 = .slice a 0 0):Bq w' B w'.heap.size v0 v1 p:=by
 obtain⟨r,hi,d⟩:=zCZ t j u;refine⟨bs,r,kb,kv,o,q,hi,fun e m=>?_,fun k g=>?_⟩
 ·have a:=i _ m;have b:=l _ (d e);rcases b.2 with f | f | f
  ·omega
  ·omega
  ·exact f.2 m
 ·rcases g with g | ⟨e,rfl⟩
  ·have:=i _ g;omega
  ·have b:=l _ (d e);have c:=j.lt _ (d e);exact⟨b.1,c.2⟩
theorem Np{B B' size:Nat}(h:w.ownsRow B' e size v n xs)(d:B<=B'):w.ownsRow B e size v n xs:=
 ⟨h.1,h.2.imp id (fun ⟨g,cap,cur,a,b,c⟩=>⟨g,cap,cur,a,Nat.le_trans d b,c⟩)⟩
def pcl:List (Int×Int)->List Value
 | []=>[]
 | x :: l=>A0 x.1 :: A0 x.2 :: pcl l
theorem Ip:∀l,(pcl l).length=l.length*2
 | []=>rfl
 | x :: l=>by simp[pcl,Ip l];omega
theorem MH:∀l m,pcl (l ++ m)=pcl l ++ pcl m
 | [],m=>rfl
 | x :: l,m=>by simp[pcl,MH l m]
theorem NZ:∀l,∀u∈pcl l,u.oneCell'=true
 | [],u,a=>by simp[pcl]at a
 | x :: l,u,a=>by
  simp only[pcl,List.mem_cons]at a;rcases a with rfl | rfl | a
  ·rfl
  ·rfl
  ·exact NZ l u a
theorem NY:∀(l:List (Int×Int)) i,i<l.length->(pcl l)[i*2]?=some (A0 (l.getD i (0,0)).1)/\(pcl l)[i*2+1]?=some (A0 (l.getD i (0,0)).2):=by
 intro l
 induction l with
 | nil=>intro i hi;simp at hi
 | cons x l ih=>
  intro i hi;cases i with
  | zero=>exact⟨rfl,rfl⟩
  | succ i=>
   have:=ih i (by simpa using hi);rw[show(i+1)*2=i*2+1+1 by omega];simpa[pcl]using this
def AN(l:List (Int×Int))(i:Nat):Int:=(l.getD i (0,0)).1
def AP(l:List (Int×Int))(i:Nat):Int:=(l.getD i (0,0)).2
theorem Nz:(Tryz.prog.info? 38).map (fun i=>(i.zero,i.size,i.bytes))=some (some (.agg #[A0 0,A0 0]),2,16):=by kernel_rfl
theorem EK(h:Below w.heap.size w w1)(row:Option Nat):w.grownBy w1 row:=⟨h.os,h.tape,h.output,h.size,fun k a _=>h.block k a⟩
def Ax(w:World)(base:Nat)(v:Value)(l:List (Int×Int)):Prop:=w.ownsRow base 38 2 v l.length (pcl l)
theorem Ax.A1(h:Ax w base v l)(a:Below w.heap.size w w1):Ax w1 base v l:=
 h.kept (EK a none) (by cases v.ownBlock<;>simp)
theorem Ax.AD{row:Option Nat}(h:Ax w base v l)(b:w.grownBy w1 row)(a:∀q,v.ownBlock=some q->row≠some q):Ax w1 base v l:=
 h.kept b (by
  cases hv:v.ownBlock with
  | none=>simp
  | some q=>exact Or.inr (fun e=>a q hv e.symm))
theorem Ax.nil(w:World)(base:Nat):Ax w base (A5) []:=World.ownsRow_nil _ _ _ _
theorem Ax.mono{a:Nat}(h:Ax w base v l)(f:a<=base):Ax w a v l:=by
 refine⟨h.1,h.2.imp id ?_⟩;rintro⟨g,cap,b,e,c,d⟩;exact⟨g,cap,b,e,Nat.le_trans f c,d⟩
theorem Ax.put{o:Nat}(h:Ax w base v l)(i:b<base)(u:Value):Ax (w.setCell ⟨b,o,none⟩ u) base v l:=by
 refine⟨h.1,h.2.imp id ?_⟩;rintro⟨g,cap,a,e,c,d,f⟩;exact⟨g,cap,a,e,c,(Below.heap_setCell _ _ _ _ (fun e=>by have:g=b:=e;omega)).trans d,f⟩
theorem Ax.lt(h:Ax w base v l){q:Nat}(a:v.ownBlock=some q):base<=q/\q<w.heap.size:=by
 rcases h.2 with⟨rfl,_⟩ | ⟨g,cap,b,rfl,c,d,_⟩
 ·simp[Value.ownBlock]at a
 ·simp only[Value.ownBlock,Option.some.injEq]at a;subst a;exact⟨c,(Array.getElem?_eq_some_iff.1 d).1⟩
theorem Ax.own(h:Ax w base v l)(j:l.length<=maxLen):∃b,CS w b v l.length (AN l) (AP l)/\(0<l.length->v.ownBlock=some b/\base<=b/\b<w.heap.size):=by
 by_cases e:0<l.length
 ·obtain⟨g,cap,rfl,d,k,f,c⟩:=FI h e;refine⟨g,⟨j,_,cap,rfl,d,fun _=>⟨0,rfl,fun i hi=>?_⟩⟩,fun _=>⟨rfl,k,f⟩⟩;rw[Nat.zero_add];exact⟨c _ _ (NY l i hi).1,c _ _ (NY l i hi).2⟩
 ·obtain⟨a,cap,rfl,d⟩:=Bw h;exact⟨0,⟨j,a,cap,rfl,d,fun h=>absurd h e⟩,fun h=>absurd h e⟩
def zHn(l:List (Int×Int))(w:World)(e:Ending)(w':World):Prop:=∃v,e = .returned v/\w'.ownsRow w.heap.size 38 2 v l.length (pcl l)/\Below w.heap.size w w'
def Dj(F:Int->Int->List (Int×Int))(s:AH):Nat->List (Int×Int)
 | 0=>[]
 | k+1=>Dj F s k ++ F (AK s k) (AW s k)
theorem XJ(s:AH):∀k,Dj one s k=kidsUp (AK s) (AW s) k
 | 0=>rfl
 | k+1=>by rw[Dj,kidsUp,XJ s k]
theorem XI(p:A7)(s:AH):∀k,Dj (Ck p) s k=CR p s k
 | 0=>rfl
 | k+1=>by rw[Dj,CR,XI p s k]
theorem XH{F:Int->Int->List (Int×Int)}(hF:∀a b,(F a b).length<=9)(s:AH):∀k,(Dj F s k).length<=9*k
 | 0=>Nat.le_refl _
 | k+1=>by
  have:=XH hF s k;have:=hF (AK s k) (AW s k);rw[Dj,List.length_append];omega
def IN(p:A7)(F:Int->Int->List (Int×Int))(xs xb:Int):List (Int×Int):=if Nil xs xb then [] else(xs,xb) :: Dj F (p.s xs.toNat) 8
def Li(p:A7)(L:Int)(F:Int->Int->List (Int×Int)):Prop:=∀(v:Value) (lo hi:Nat) (xs xb:Int) (w:World),CL w lo hi v p.n p.s->(Nil xs xb\/B8 p xs xb)->
 Calls Tryz.prog 170 #[v,.agg #[A0 xs,A0 xb],A0 L] w (zHn (F xs xb) w)
theorem zBA{K:Nat}{cs:Array Value}(h:w.ownsRow base 38 2 v n xs)(hK:w.heap[K]?=some (.cells cs 121 (0,0))):v.ownBlock≠some K:=by
 intro e;rcases h.2 with⟨rfl,_⟩ | ⟨g,cap,b,rfl,_,a,_⟩
 ·simp[Value.ownBlock]at e
 ·simp only[Value.ownBlock,Option.some.injEq]at e;subst e;rw[hK]at a;simp only[Option.some.injEq,Obj.cells.injEq]at a;exact absurd a.2.1 (by decide)
theorem L1{xs:Int}(h:¬Nil xs xb):(xs == 0)=false\/(xs == 0)=true/\(xb == 0)=false:=by
 by_cases a:xs=0
 ·right;refine⟨by simp[a],?_⟩;have:xb≠0:=fun b=>h ⟨a,b⟩
  simp[this]
 ·left;simp[a]
theorem zDw(p:A7):Li p 2 one:=by
 intro v lo hi xs xb w hs j;obtain⟨_,a,c,rfl,_⟩:=id hs;have g:=AB w (.cells #[A0 xs,A0 xb] 38);obtain⟨⟨k,l⟩,⟨m,n⟩⟩:=Ad.new w (A0 xs) (A0 xb) 38;have b:=World.ownsRow_lit (e:=38) (size:=2) (base:=w.heap.size) (w.alloc (.cells #[A0 xs,A0 xb] 38)) #[A0 xs,A0 xb] 1 (by simp) (by unfold maxLen;omega) rfl;rw[World.size_alloc]at b;have d:=AF b;have h:=AF (A9 g (AB _ (.cells #[A0 xs,A0 xb] 38)));clear b;by_cases hn:Nil xs xb
 ·have f:=AF hn;obtain⟨rfl,rfl⟩:=hn;go_enter Tryz.func170,Tryz.ntmps170;go_wp2;go_ret;exact⟨_,rfl,by rw[show one 0 0 = [] from if_pos f.out];exact World.ownsRow_nil _ _ _ _,g⟩
 ·have f:=AF hn;have e0:=L1 hn;clear hn;rcases e0 with e0 | ⟨e0,i⟩
  all_goals
   go_enter Tryz.func170,Tryz.ntmps170;go_wp2;go_ret;exact⟨_,rfl,by rw[show one xs xb = [(xs,xb)] from if_neg f.out];exact d.out,h.out⟩
theorem Va(p:A7)(L:Int)(F:Int->Int->List (Int×Int))(hR:AZ p)(hL:0<=L/\L<2)(hF:∀a b,(F a b).length<=9)(E:Li p (L+1) F):Li p L (IN p F):=by
 intro v lo hi xs xb w hs hP;have Hs:=AF hs;obtain⟨_,a,c,rfl,_⟩:=id hs;have ha:=AB w (.cells #[A0 xs,A0 xb] 38);obtain⟨⟨x0,x1⟩,⟨x2,x3⟩⟩:=Ad.new w (A0 xs) (A0 xb) 38;have pB:(L == 2)=false:=by simp;omega
 clear hs;by_cases hn:Nil xs xb
 ·have HN:=AF hn;obtain⟨rfl,rfl⟩:=hn;go_enter Tryz.func170,Tryz.ntmps170;go_wp2;go_ret;exact⟨_,rfl,by rw[show IN p F 0 0 = [] from if_pos HN.out];exact World.ownsRow_nil _ _ _ _,ha⟩
 ·have HN:=AF hn;have e0:=L1 hn;have A:B8 p xs xb:=hP.resolve_left hn;have Hf:=AF (Ey hR A);have R:=AF E;have HF:=AF hF;obtain⟨k,rfl⟩:=Int.eq_ofNat_of_zero_le A.2.1;rw[Int.toNat_natCast]at Hf;have hk:k<p.n:=(by have:=A.2.2.1;omega);have sB:(k:Int)<(p.n:Int):=(by omega);clear hn hP A E hR hF;have x:=World.ownsRow_lit (e:=38) (size:=2) (base:=w.heap.size+1) (w.alloc (.cells #[A0 (k:Int),A0 xb] 38)) #[A0 (k:Int),A0 xb] 1 (by simp) (by unfold maxLen;omega) rfl;rw[World.size_alloc]at x;have C:=AF x;have K:=AB (w.alloc (.cells #[A0 (k:Int),A0 xb] 38)) (.cells #[A0 (k:Int),A0 xb] 38);have J:=A9 ha K;have mA:=(Ad.new w (A0 (k:Int)) (A0 xb) 38).A1 K;clear x0 x1 x2 x3 x ha K;obtain⟨⟨x0,x1⟩,⟨x2,x3⟩⟩:=mA;obtain⟨b,off,ka,kc,rfl,X⟩:=(Hs.out.A1 J).cells hk;have HC:=AF X;obtain⟨q0,q1,q2,_⟩:=X;obtain⟨y0,y1⟩:=(Ad.new w (A0 (k:Int)) (A0 xb) 38).1;obtain⟨y2,y3⟩:=(Ad.new w (A0 (k:Int)) (A0 xb) 38).2;rcases e0 with e0 | ⟨e0,e1⟩
  all_goals
   go_enter Tryz.func170,Tryz.ntmps170;go_wp2_with fail;refine(OO _ _ _ lo hi (p.s k) _ HC.out.slot (Lc Hf.out)).mono ?_;rintro e O ⟨rfl,B⟩;have T:=A9 J B;have y:=C.out.kept (ZP B none) (Or.inr (by simp[Value.ownBlock]));have Q:Hid ((Tryz.prog.info? 121).map (·.size)=some (B9 (p.s k)).size):=by
    show _=_;rw[B9,D4];exact GV
   have D:(O.alloc (.cells (B9 (p.s k)) 121)).heap[O.heap.size]?=some (.cells (B9 (p.s k)) 121 (0,0)):=heap_alloc_last _ _;have HK:=AF D;have S:=AF (y.alloc (.cells (B9 (p.s k)) 121));have gA:=A9 T (AB O (.cells (B9 (p.s k)) 121));have aC:w.heap.size+2<=O.heap.size:=(by have:=B.size;rw[World.size_alloc,World.size_alloc]at this;omega);obtain⟨i0,W,N⟩:=Option.map_eq_some_iff.1 Lw;simp only[Prod.mk.injEq]at N;have Z:=AF (And.intro W N);clear B T y D J x0 x1 x2 x3 y0 y1 y2 y3 q0 q1 q2 HC C W N;go_wp2_with (first
    | (refine wpList_store_row rfl 121 (.tmp 8) (.tmp 23) rfl O.heap.size (B9 (p.s k)) rfl rfl 121 #[Value.int .i64 0,Value.int .i64 0,Value.int .i64 0,Value.int .i64 0,Value.int .i64 0,Value.int .i64 0,Value.int .i64 0,Value.int .i64 0,Value.int .i64 0,Value.int .i64 0,Value.int .i64 0,Value.int .i64 0,Value.int .i64 0,Value.int .i64 0,Value.int .i64 0,Value.int .i64 0] (heap_alloc_last _ _) Q.out (by rw[B9,D4];rfl) (I7 _) ?_;rw[World.setRow_alloc_new]))
   go_loopw [7,24] (fun o i wr=>∃(j:Nat) (oa:Option Addr) (oc:Nat),j<=8/\i=A0 j/\o = .slice oa (((k:Int),xb) :: Dj F (p.s k) j).length oc/\wr.ownsRow (w.heap.size+1) 38 2 o (((k:Int),xb) :: Dj F (p.s k) j).length (pcl (((k:Int),xb) :: Dj F (p.s k) j))/\wr.heap[O.heap.size]?=some (.cells (B9 (p.s k)) 121 (0,0))/\Below w.heap.size w wr) (fun _ i _=>8 - (intOf i).toNat)
   case atStart=>exact⟨0,_,_,Nat.zero_le _,rfl,rfl,S.out,HK.out,gA⟩
   case round=>
    obtain⟨j,oa,oc,hj,rfl,rfl,G,hK,hb⟩:=hrel;have m:=AF G;have z:=AF hK;have Y:O.heap.size<wr.heap.size:=(Array.getElem?_eq_some_iff.1 hK).1;have lB:=XH HF.out (p.s k) j;clear G hK;by_cases lA:j<8
    ·have mB:(j:Int)<8:=(by omega);obtain⟨y0,y1⟩:=Az (i:=j*2) z.out (EM (BC (p.s k)) (by omega));obtain⟨y2,y3⟩:=Az (i:=j*2+1) z.out (EM (BC (p.s k)) (by omega));have fA:Hid (Nil (BC (p.s k) (j*2)) (BC (p.s k) (j*2+1))\/B8 p (BC (p.s k) (j*2)) (BC (p.s k) (j*2+1))):=by
      by_cases hn:Nil (AK (p.s k) j) (AW (p.s k) j)
      ·exact Or.inl hn
      ·exact Or.inr (J5 Hf.out lA hn).1
     go_wp2_with fail;refine(R.out _ lo hi (BC (p.s k) (j*2)) (BC (p.s k) (j*2+1)) _ (Hs.out.A1 hb) fA.out).mono ?_;rintro e w2 ⟨v2,rfl,l,r⟩;obtain⟨na,nc,rfl,_⟩:=Bw l;have tB:=HF.out (BC (p.s k) (j*2)) (BC (p.s k) (j*2+1));have H:=AF l;have h:=AF (m.out.kept (ZP r none) (by cases hv:(Value.slice oa (((k:Int),xb) :: Dj F (p.s k) j).length oc).ownBlock<;>simp));have P:=AF ((r.block _ Y).trans z.out);have U:=A9 hb r;have bC:=r.size;clear l r y0 y1 y2 y3 m z;go_wp2_with (first
      | (at_builtin;refine Jt rfl _ _ 39 rfl (w.heap.size+1) 38 i0 (.agg #[A0 0,A0 0]) 2 16 (by kernel_rfl) Z.out.1 Z.out.2.1 Z.out.2.2.1 Z.out.2.2.2 rfl (by decide) (.slice oa (((k:Int),xb) :: Dj F (p.s k) j).length oc) (((k:Int),xb) :: Dj F (p.s k) j).length (pcl (((k:Int),xb) :: Dj F (p.s k) j)) rfl ?c0 na (F (BC (p.s k) (j*2)) (BC (p.s k) (j*2+1))).length nc (pcl (F (BC (p.s k) (j*2)) (BC (p.s k) (j*2+1)))) rfl (Ip _) (NZ _) ?c1 ?c3 ?c4 ?c5 ?_))
     case c0=>exact h.out
     case c1=>
      intro h0;obtain⟨g,cap,e,_,_,_,M⟩:=FI H.out h0;simp only[Value.slice.injEq,true_and]at e;exact⟨g,0,e.1,fun j u hj=>by rw[Nat.zero_add];exact(M j u hj).1⟩
     case c3=>rw[List.length_cons];unfold maxLen;omega
     case c4=>rw[List.length_cons];omega
     case c5=>omega
     intro v3 w3 f d _;have t:((k:Int),xb) :: Dj F (p.s k) (j+1)=(((k:Int),xb) :: Dj F (p.s k) j) ++ F (BC (p.s k) (j*2)) (BC (p.s k) (j*2+1)):=rfl;have V:(Dj F (p.s k) j).length+1+(F (BC (p.s k) (j*2)) (BC (p.s k) (j*2+1))).length=(((k:Int),xb) :: Dj F (p.s k) (j+1)).length:=(by rw[t,List.length_append,List.length_cons]);rw[<-MH,<-t,V]at f;have cA:=AF ((d.block _ (by omega) (fun e=>zBA h.out P.out e.symm)).trans P.out);have iA:=U.grown d U.size (fun q hq=>by have:=h.out.lt q hq;omega);obtain⟨nA,oA,rfl,_⟩:=Bw f;have I:=AF f;clear f d t V;go_wp2;go_roundw
     case rel=>exact⟨j+1,nA,oA,by omega,by go_num,rfl,I.out,cA.out,iA⟩
     case measure=>simp[intOf];omega
    ·obtain rfl:j=8:=(by omega);go_wp2;go_ret;refine⟨_,rfl,?_,hb⟩;rw[show IN p F (k:Int) xb=((k:Int),xb) :: Dj F (p.s k) 8 by unfold IN;rw[if_neg HN.out,Int.toNat_natCast]];exact Np m.out (by omega)
theorem zDv(p:A7)(c:AZ p):Li p 1 (Ck p):=by
 have h:=Va p 1 one c (by omega) (fun a b=>by unfold one;split<;>simp) (zDw p);have e:IN p one=Ck p:=by
  funext xs xb;unfold IN Ck Eh;rw[XJ]
 rw[e]at h;exact h
theorem VZ(p:A7)(a:AZ p):Li p 0 (AG p):=by
 have h:=Va p 0 (Ck p) a (by omega) (Uz p) (zDv p a);have e:IN p (Ck p)=AG p:=by
  funext xs xb;unfold IN AG;rw[XI]
 rw[e]at h;exact h
def Ju(n:Nat)(f g:Nat->Int)(x y:Int):Prop:=∃j,j<n/\f j=x/\g j=y
variable{a:Option Addr}
theorem BG.cellsT(h:BG w lo hi (.slice a n c) n f g){k:Nat}(e:k<n):∃b off,a=some ⟨b,off,none⟩/\w.cell? ⟨b,off+k*2,none⟩=some (A0 (f k))/\w.cell? ⟨b,off+k*2+1,none⟩=some (A0 (g k)):=by
 obtain⟨_,l,m,hv,_,j⟩:=h;simp only[Value.slice.injEq,true_and]at hv;obtain⟨rfl,rfl⟩:=hv;obtain⟨b,off,i,_,_,d⟩:=j (by omega);exact⟨b,off,i,(d k e).1,(d k e).2⟩
theorem BG.take{m c':Nat}(h:BG w lo hi (.slice a n c) n f g)(t:m<=n)(j:m<=c'):BG w lo hi (.slice a m c') m f g:=by
 obtain⟨r,p,q,hv,_,o⟩:=h;simp only[Value.slice.injEq,true_and]at hv;obtain⟨rfl,rfl⟩:=hv;refine⟨by omega,_,c',rfl,j,fun s=>?_⟩;obtain⟨b,off,e,l,k,d⟩:=o (by omega);exact⟨b,off,e,l,k,fun i hi=>d i (by omega)⟩
theorem zCD(v:Value)(n lo hi:Nat)(f g:Nat->Int)(x y:Int)(w:World)(s:BG w lo hi v n f g) :
 Calls Tryz.prog 192 #[v,.agg #[A0 x,A0 y]] w fun e w'=>(∃r:Int,e = .returned (A0 r)/\(0<=r↔Ju n f g x y))/\Below w.heap.size w w':=by
 have C:=AF s;obtain⟨F,a,c,rfl,K,_⟩:=id s;unfold maxLen at F;clear s;have E:=AB w (.cells #[A0 x,A0 y] 38);have B:=AF (Ad.new w (A0 x) (A0 y) 38);go_enter Tryz.func192,Tryz.ntmps192;go_wp2
 go_loopw [8] (fun i wr=>∃k:Nat,k<=n/\i=A0 k/\¬Ju k f g x y/\Ad wr w.heap.size (A0 x) (A0 y)/\Below w.heap.size w wr) (fun i _=>n - (intOf i).toNat)
 case atStart=>exact⟨0,Nat.zero_le _,rfl,fun ⟨j,z,_⟩=>absurd z (Nat.not_lt_zero _),B.out,E⟩
 case round=>
  obtain⟨k,J,rfl,p,u,q⟩:=hrel;have m:=AF p;have t:=AF u;clear p u;obtain⟨⟨L,M⟩,⟨N,O⟩⟩:=t.out;by_cases o:k<n
  ·have A:(k:Int)<(n:Int):=(by omega);obtain⟨b,off,rfl,G,q1⟩:=(C.out.A1 q).cellsT o;by_cases d:x=f k/\y=g k
   ·have H:=AF (show Ju n f g x y from⟨k,o,d.1.symm,d.2.symm⟩);rw[<-d.1]at G;rw[<-d.2]at q1;clear d;go_wp2
    go_quiet (fail)
    go_wp2;go_ret;exact⟨⟨_,rfl,⟨fun _=>H.out,fun _=>Int.natCast_nonneg _⟩⟩,Js q _⟩
   ·have H:=AF d;have e0:(x == f k)=false\/(x == f k)=true/\(y == g k)=false:=by
     by_cases h:x=f k
     ·right;refine⟨by simp[h],?_⟩;have:y≠g k:=fun D=>d ⟨h,D⟩
      simp[this]
     ·left;simp[h]
    clear d;rcases e0 with e0 | ⟨e0,I⟩
    all_goals
     go_wp2
     go_quiet (fail)
     go_wp2;go_roundw
     case rel=>
      refine⟨k+1,by omega,by go_num,?_,t.out.A1 (Js (Below.refl _ _) _),Js q _⟩;rintro⟨j,z,l⟩;by_cases e:j=k
      ·subst e;exact H.out ⟨l.1.symm,l.2.symm⟩
      ·exact m.out ⟨j,by omega,l⟩
     case measure=>simp[intOf];omega
  ·obtain rfl:k=n:=(by omega);go_wp2;go_ret;exact⟨⟨-1,rfl,⟨fun h=>absurd h (by omega),fun h=>absurd h m.out⟩⟩,q⟩
theorem ZH(v:Value)(n lo hi:Nat)(f g:Nat->Int)(x y:Int)(w:World)(b:BG w lo hi v n f g) :
 Calls Tryz.prog 173 #[v,.agg #[A0 x,A0 y]] w fun e w'=>AJ (Ju n f g x y) e/\Below w.heap.size w w':=by
 have j:=AF b;obtain⟨m,a,c,rfl,o,_⟩:=id b;clear b;have d:=AB w (.cells #[A0 x,A0 y] 38);go_enter Tryz.func173,Tryz.ntmps173;go_wp2_with fail;refine(zCD _ n lo hi f g x y _ (j.out.A1 d)).mono ?_;rintro e w' ⟨⟨r,rfl,i⟩,h⟩;have k:=AF i;have l:=A9 d h;clear i h;go_wp2;go_ret;exact⟨⟨_,rfl,by simpa using k.out⟩,l⟩
end Go.Proofs.YtddigaohmfpepaaGreatDoor
