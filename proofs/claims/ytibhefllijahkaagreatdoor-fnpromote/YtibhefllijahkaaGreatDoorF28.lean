/- A part of the proof. -/
import Derived.Test.YtibhefllijahkaaGreatDoorF27
import Derived.Test.YtibhefllijahkaaGreatDoorRows
import Derived.ChangeSame
import Derived.ChangeVars
import Derived.JoinedOf
import Derived.LaidLaws
import Derived.Stop.LaidTwo
import Derived.Stop.Joined
import Derived.Stop.ErrReads
import Derived.MakeChecks
import Derived.OpenShut
import Derived.ChangeOld
set_option linter.unusedVariables false
set_option maxRecDepth 20000
set_option maxHeartbeats 4000000
namespace Go.Proofs.YtibhefllijahkaaGreatDoor
noncomputable section
open Go.RowKit Go.Maps
theorem Kd.nil{w w':World}(h:Below w.heap.size w w'):Kd [] w (.returned (.slice none 0 0)) w':=⟨_,rfl,DU.nil _ _,h⟩
theorem zEt(p:A8):As p 0 0:=Or.inl ⟨rfl,rfl⟩
theorem zCb(i v1 j k:Value)(lo hi:Nat)(W:A5)(x:ByteArray)(w:World)(h:BR w lo hi i v1 j k W)(U:hi<=w.heap.size)(q:E7 W)(L:x.size<=maxLen):Calls Tryz.prog 16 #[BS i v1 j k W,.string x] w (Kd (ID W x) w):=by
 have v:=A4 h;have y:=A4 q;have O:=A4 L;clear h q L;have g:=A9 w (.cells #[i,v1,.int .i64 W.time,.int .i64 W.next,j,k] 30);have r:=A4 (Aj.new w i v1 (.int .i64 W.time) (.int .i64 W.next) j k 30);obtain⟨D,E,F,G,H,I⟩:=r.out.c;go_enter Tryz.func16,Tryz.ntmps16;go_wp2_with fail;generalize w.alloc (.cells #[i,v1,.int .i64 W.time,.int .i64 W.next,j,k] 30)=W0 at r g D E F G H I ⊢;refine(P6 i v1 j k lo hi W W0 (v.out.A0 g) y.out).mono ?_;rintro e S ⟨⟨t,rfl,K⟩,n⟩;have J:=A4 (K.trans (GD W));have d:=A7 g n;have m:=A4 (r.out.A0 n);clear D E F G H I n g r K;cases t
 ·have s:=A4 (show ID W x = [] from Yj (fun h=>absurd (J.out.2 h) (by simp)));go_wp2;go_ret;rw[s.out];exact Kd.nil d
 ·have o:=A4 (J.out.1 (by simp));have s:=A4 (show ID W x=FJ W.pool (Am W x).rs (Am W x).rb 0 0 64 from Rj o.out);have N:=A4 (UN o.out x);have T:=Vm;obtain⟨D,E,F,G,H,I⟩:=m.out.c;go_wp2_with fail;go_region_held3 (fun w'=>w'.cell? ⟨w.heap.size,0,none⟩=some i/\w'.cell? ⟨w.heap.size,1,none⟩=some v1/\w'.cell? ⟨w.heap.size,2,none⟩=some (.int .i64 W.time)/\w'.cell? ⟨w.heap.size,3,none⟩=some (.int .i64 W.next)/\w'.cell? ⟨w.heap.size,4,none⟩=some j/\w'.cell? ⟨w.heap.size,5,none⟩=some k) (go_keep)
   (first
    | (go_at_call 46;refine(K9 i v1 j k lo hi W _ ((v.out.A0 d).A0 (Below.refl _ _).drew) o.out.AX.2.2.1).mono ?_;rintro e w2 ⟨vd,rfl,R,P,B⟩;have b:=Cp B;obtain⟨a,c,A,V⟩:=Ov (o.out.AX.dist) P x;have Q:=Nr (M:=S.heap.size+1) R O.out A;obtain⟨z0,z1,z2,z3,z4,z5⟩:=(m.out.A0 b).c)
    | (go_at_call 45;refine(zCy i v1 j k lo hi W _ _ _ _ _ ((v.out.A0 d).A0 b) (by have:=b.size;have:=d.size;omega) o.out.right N.out (zEt _)).mono ?_;rintro e w3 ⟨vi,rfl,p,C⟩;have l:=A7 b C;obtain⟨X,Y,Z,k3,k4,k5⟩:=(m.out.A0 l).c))
  have u:=A4 p;clear p;go_wp2;go_ret;have z:=A7 d l;rw[s.out];exact⟨_,rfl,u.out.mono (by have:=d.size;have:=b.size;omega),z⟩
open Go.ChangeShapes Go.WideShapes
set_option maxRecDepth 100000
abbrev LX:List (String×DataW Unit):=[("loop.example/g00381/impl.errForm",Rows.laid_loop_example_g00381_impl_errForm),("loop.example/g00381/impl.errSize",Rows.laid_loop_example_g00381_impl_errSize),("loop.example/g00381/impl.errNone",Rows.laid_loop_example_g00381_impl_errNone),("loop.example/g00381/impl.errThere",Rows.laid_loop_example_g00381_impl_errThere),("loop.example/g00381/impl.errFull",Rows.laid_loop_example_g00381_impl_errFull),("loop.example/g00381/impl.errState",Rows.laid_loop_example_g00381_impl_errState),("loop.example/g00381/impl.errRange",Rows.laid_loop_example_g00381_impl_errRange)]
def errN:Nat->String
 | 0=> "loop.example/g00381/impl.errForm"
 | 1=> "loop.example/g00381/impl.errSize"
 | 2=> "loop.example/g00381/impl.errNone"
 | 3=> "loop.example/g00381/impl.errThere"
 | 4=> "loop.example/g00381/impl.errFull"
 | 5=> "loop.example/g00381/impl.errState"
 | _=> "loop.example/g00381/impl.errRange"
theorem EW(i:Nat)(h:i<7):Tryz.prog.globalNamed (errN i)=some (Er i)/\(Tryz.prog.globals[Er i]?).map (·.type)=some 55:=by
 match i,h with
 | 0,_=>exact⟨by kernel_rfl,by kernel_rfl⟩
 | 1,_=>exact⟨by kernel_rfl,by kernel_rfl⟩
 | 2,_=>exact⟨by kernel_rfl,by kernel_rfl⟩
 | 3,_=>exact⟨by kernel_rfl,by kernel_rfl⟩
 | 4,_=>exact⟨by kernel_rfl,by kernel_rfl⟩
 | 5,_=>exact⟨by kernel_rfl,by kernel_rfl⟩
 | 6,_=>exact⟨by kernel_rfl,by kernel_rfl⟩
theorem TN : "*" ++ "errors.errorString" = "*errors.errorString" :=by decide
theorem Jc(u:TypeId)(h:Tryz.prog.typeName? 3 u=some "*errors.errorString"):u=256:=
 typeName_ptr_named (nm:= "errors.errorString") (by rw[TN];kernel_rfl) (by kernel_rfl) (by decide) u (by rw[TN];exact h)
theorem Jl:Tryz.prog.cellsOf 280=1:=by kernel_rfl
theorem Jr:Tryz.prog.cellsOf 9=1:=by kernel_rfl
theorem zCC{W:World}(h:laidMetH Tryz.prog LX W):∃p:Nat->Addr,Cr W p/\∀i,i<7->W.var? Tryz.prog (errN i)=some #[AY (p i)]:=by
 rw[MakeChecks.laidMetH_plain _ _ _ (by kernel_rfl)]at h;obtain⟨ps,⟨g0,t0,H,f0,p0,q0,r,V,A,O,⟨g1,t1,I,f1,p1,q1,s,X,B,P,⟨g2,t2,J,f2,p2,q2,t,Y,C,Q,⟨g3,t3,K,f3,p3,q3,w,Z,D,R,⟨g4,t4,L,f4,p4,q4,x,aA,E,S,⟨g5,t5,M,f5,p5,q5,y,bA,F,T,⟨g6,t6,N,f6,p6,q6,z,cA,G,U,_,e6⟩,e5⟩,e4⟩,e3⟩,e2⟩,e1⟩,e0⟩,a,b⟩:=h;obtain rfl:=Option.some.inj ((EW 0 (by omega)).1.symm.trans r);obtain rfl:=Option.some.inj ((EW 0 (by omega)).2.symm.trans V);obtain rfl:=Option.some.inj ((EW 1 (by omega)).1.symm.trans s);obtain rfl:=Option.some.inj ((EW 1 (by omega)).2.symm.trans X);obtain rfl:=Option.some.inj ((EW 2 (by omega)).1.symm.trans t);obtain rfl:=Option.some.inj ((EW 2 (by omega)).2.symm.trans Y);obtain rfl:=Option.some.inj ((EW 3 (by omega)).1.symm.trans w);obtain rfl:=Option.some.inj ((EW 3 (by omega)).2.symm.trans Z);obtain rfl:=Option.some.inj ((EW 4 (by omega)).1.symm.trans x);obtain rfl:=Option.some.inj ((EW 4 (by omega)).2.symm.trans aA);obtain rfl:=Option.some.inj ((EW 5 (by omega)).1.symm.trans y);obtain rfl:=Option.some.inj ((EW 5 (by omega)).2.symm.trans bA);obtain rfl:=Option.some.inj ((EW 6 (by omega)).1.symm.trans z);obtain rfl:=Option.some.inj ((EW 6 (by omega)).2.symm.trans cA);subst e6;subst e5;subst e4;subst e3;subst e2;subst e1;subst e0;obtain⟨l0⟩:=H;have dA:∀u v,l0 = [.iface u v]->Value.okWide Tryz.prog W .any 0 u v:=fun u v e=>by
  subst e;exact(b (Er 0) 0 (by simp[MemPlace.row])).2 u v (by simpa using World.var?_cell r A 0)
 obtain⟨d,s0,rfl,sA,gB,oB,rfl⟩:=errorString_of_trod Tryz.underlying55 Jc Tryz.underlying256 Tryz.underlying280 rfl rfl Tryz.underlying9 Jl Jr O dA;obtain⟨l1⟩:=I;have eA:∀u v,l1 = [.iface u v]->Value.okWide Tryz.prog W .any 0 u v:=fun u v e=>by
  subst e;exact(b (Er 1) 0 (by simp[MemPlace.row])).2 u v (by simpa using World.var?_cell s B 0)
 obtain⟨g,s1,rfl,tA,iB,pB,rfl⟩:=errorString_of_trod Tryz.underlying55 Jc Tryz.underlying256 Tryz.underlying280 rfl rfl Tryz.underlying9 Jl Jr P eA;obtain⟨l2⟩:=J;have fA:∀u v,l2 = [.iface u v]->Value.okWide Tryz.prog W .any 0 u v:=fun u v e=>by
  subst e;exact(b (Er 2) 0 (by simp[MemPlace.row])).2 u v (by simpa using World.var?_cell t C 0)
 obtain⟨k,s2,rfl,vA,jB,rB,rfl⟩:=errorString_of_trod Tryz.underlying55 Jc Tryz.underlying256 Tryz.underlying280 rfl rfl Tryz.underlying9 Jl Jr Q fA;obtain⟨l3⟩:=K;have gA:∀u v,l3 = [.iface u v]->Value.okWide Tryz.prog W .any 0 u v:=fun u v e=>by
  subst e;exact(b (Er 3) 0 (by simp[MemPlace.row])).2 u v (by simpa using World.var?_cell w D 0)
 obtain⟨l,s3,rfl,aB,kB,sB,rfl⟩:=errorString_of_trod Tryz.underlying55 Jc Tryz.underlying256 Tryz.underlying280 rfl rfl Tryz.underlying9 Jl Jr R gA;obtain⟨l4⟩:=L;have iA:∀u v,l4 = [.iface u v]->Value.okWide Tryz.prog W .any 0 u v:=fun u v e=>by
  subst e;exact(b (Er 4) 0 (by simp[MemPlace.row])).2 u v (by simpa using World.var?_cell x E 0)
 obtain⟨m,s4,rfl,bB,lB,tB,rfl⟩:=errorString_of_trod Tryz.underlying55 Jc Tryz.underlying256 Tryz.underlying280 rfl rfl Tryz.underlying9 Jl Jr S iA;obtain⟨l5⟩:=M;have jA:∀u v,l5 = [.iface u v]->Value.okWide Tryz.prog W .any 0 u v:=fun u v e=>by
  subst e;exact(b (Er 5) 0 (by simp[MemPlace.row])).2 u v (by simpa using World.var?_cell y F 0)
 obtain⟨n,s5,rfl,cB,mB,vB,rfl⟩:=errorString_of_trod Tryz.underlying55 Jc Tryz.underlying256 Tryz.underlying280 rfl rfl Tryz.underlying9 Jl Jr T jA;obtain⟨l6⟩:=N;have kA:∀u v,l6 = [.iface u v]->Value.okWide Tryz.prog W .any 0 u v:=fun u v e=>by
  subst e;exact(b (Er 6) 0 (by simp[MemPlace.row])).2 u v (by simpa using World.var?_cell z G 0)
 obtain⟨o,s6,rfl,eB,nB,aC,rfl⟩:=errorString_of_trod Tryz.underlying55 Jc Tryz.underlying256 Tryz.underlying280 rfl rfl Tryz.underlying9 Jl Jr U kA;refine⟨fun | 0=>d | 1=>g | 2=>k | 3=>l | 4=>m | 5=>n | _=>o,⟨fun i hi=>?_,fun i hi=>?_,fun i j hi hj q c=>?_⟩,fun i hi=>?_⟩
 ·match i,hi with
  | 0,_=>simpa using World.var?_cell r A 0
  | 1,_=>simpa using World.var?_cell s B 0
  | 2,_=>simpa using World.var?_cell t C 0
  | 3,_=>simpa using World.var?_cell w D 0
  | 4,_=>simpa using World.var?_cell x E 0
  | 5,_=>simpa using World.var?_cell y F 0
  | 6,_=>simpa using World.var?_cell z G 0
 ·match i,hi with
  | 0,_=>exact(b d.block d.off (by simp[MemPlace.row])).1
  | 1,_=>exact(b g.block g.off (by simp[MemPlace.row])).1
  | 2,_=>exact(b k.block k.off (by simp[MemPlace.row])).1
  | 3,_=>exact(b l.block l.off (by simp[MemPlace.row])).1
  | 4,_=>exact(b m.block m.off (by simp[MemPlace.row])).1
  | 5,_=>exact(b n.block n.off (by simp[MemPlace.row])).1
  | 6,_=>exact(b o.block o.off (by simp[MemPlace.row])).1
 ·simp only[MemPlace.row]at a
  match i,hi,j,hj with
  | 0,_,0,_=>exact absurd rfl q
  | 0,_,1,_=>obtain rfl:d=g:=c;simp at a
  | 0,_,2,_=>obtain rfl:d=k:=c;simp at a
  | 0,_,3,_=>obtain rfl:d=l:=c;simp at a
  | 0,_,4,_=>obtain rfl:d=m:=c;simp at a
  | 0,_,5,_=>obtain rfl:d=n:=c;simp at a
  | 0,_,6,_=>obtain rfl:d=o:=c;simp at a
  | 1,_,0,_=>obtain rfl:g=d:=c;simp at a
  | 1,_,1,_=>exact absurd rfl q
  | 1,_,2,_=>obtain rfl:g=k:=c;simp at a
  | 1,_,3,_=>obtain rfl:g=l:=c;simp at a
  | 1,_,4,_=>obtain rfl:g=m:=c;simp at a
  | 1,_,5,_=>obtain rfl:g=n:=c;simp at a
  | 1,_,6,_=>obtain rfl:g=o:=c;simp at a
  | 2,_,0,_=>obtain rfl:k=d:=c;simp at a
  | 2,_,1,_=>obtain rfl:k=g:=c;simp at a
  | 2,_,2,_=>exact absurd rfl q
  | 2,_,3,_=>obtain rfl:k=l:=c;simp at a
  | 2,_,4,_=>obtain rfl:k=m:=c;simp at a
  | 2,_,5,_=>obtain rfl:k=n:=c;simp at a
  | 2,_,6,_=>obtain rfl:k=o:=c;simp at a
  | 3,_,0,_=>obtain rfl:l=d:=c;simp at a
  | 3,_,1,_=>obtain rfl:l=g:=c;simp at a
  | 3,_,2,_=>obtain rfl:l=k:=c;simp at a
  | 3,_,3,_=>exact absurd rfl q
  | 3,_,4,_=>obtain rfl:l=m:=c;simp at a
  | 3,_,5,_=>obtain rfl:l=n:=c;simp at a
  | 3,_,6,_=>obtain rfl:l=o:=c;simp at a
  | 4,_,0,_=>obtain rfl:m=d:=c;simp at a
  | 4,_,1,_=>obtain rfl:m=g:=c;simp at a
  | 4,_,2,_=>obtain rfl:m=k:=c;simp at a
  | 4,_,3,_=>obtain rfl:m=l:=c;simp at a
  | 4,_,4,_=>exact absurd rfl q
  | 4,_,5,_=>obtain rfl:m=n:=c;simp at a
  | 4,_,6,_=>obtain rfl:m=o:=c;simp at a
  | 5,_,0,_=>obtain rfl:n=d:=c;simp at a
  | 5,_,1,_=>obtain rfl:n=g:=c;simp at a
  | 5,_,2,_=>obtain rfl:n=k:=c;simp at a
  | 5,_,3,_=>obtain rfl:n=l:=c;simp at a
  | 5,_,4,_=>obtain rfl:n=m:=c;simp at a
  | 5,_,5,_=>exact absurd rfl q
  | 5,_,6,_=>obtain rfl:n=o:=c;simp at a
  | 6,_,0,_=>obtain rfl:o=d:=c;simp at a
  | 6,_,1,_=>obtain rfl:o=g:=c;simp at a
  | 6,_,2,_=>obtain rfl:o=k:=c;simp at a
  | 6,_,3,_=>obtain rfl:o=l:=c;simp at a
  | 6,_,4,_=>obtain rfl:o=m:=c;simp at a
  | 6,_,5,_=>obtain rfl:o=n:=c;simp at a
  | 6,_,6,_=>exact absurd rfl q
 ·match i,hi with
  | 0,_=>exact A
  | 1,_=>exact B
  | 2,_=>exact C
  | 3,_=>exact D
  | 4,_=>exact E
  | 5,_=>exact F
  | 6,_=>exact G
theorem R4{H:Type}(enc:TypeId×Value->H){W:World}{p:Nat->Addr}(h:∀i,i<7->W.var? Tryz.prog (errN i)=some #[AY (p i)])(sp:Nat->Bool):∀l:List Nat,(∀i,i∈l->i<7)->
 DataW.TrodVars enc Tryz.prog W sp (l.map errN) (l.map fun i=>tok enc (AY (p i))) (l.map fun i=>.cell (Er i) 0)
 | [],_=>rfl
 | i :: l,hl=>⟨Er i,55,#[AY (p i)],1,[],l.map fun i=>.cell (Er i) 0,(EW i (hl i (List.mem_cons_self ..))).1,(EW i (hl i (List.mem_cons_self ..))).2,h i (hl i (List.mem_cons_self ..)),trod_held Tryz.underlying55 (show IsIface (AY (p i))from trivial) 0,R4 enc h sp l fun j a=>hl j (List.mem_cons_of_mem _ a),rfl⟩
theorem zAI{W W':World}{n:String}{cs:Array Value}(h:W.var? Tryz.prog n=some cs)(t:Below W.heap.size W W'):W'.var? Tryz.prog n=some cs:=by
 unfold World.var? at h ⊢;cases hg:Tryz.prog.globalNamed n with
 | none=>simp[hg]at h
 | some g=>
  simp only[hg,Option.bind_some]at h ⊢;have b:g<W.heap.size:=by
   rcases Nat.lt_or_ge g W.heap.size with a | a
   ·exact a
   ·simp[Array.getElem?_eq_none a]at h
  rw[t.block g b];exact h
def Em:Nat:=(World.holding Tryz.prog default ⟨#[],#[],[]⟩).heap.size
def X3(os:Os):World:=
 let w0:=World.holding Tryz.prog os ⟨#[.cells #[.string ⟨#[105,116,32,105,115,32,110,111,116,32,114,105,103,104,116]⟩] 280,.cells #[.string ⟨#[105,116,32,105,115,32,116,111,111,32,108,111,110,103]⟩] 280,.cells #[.string ⟨#[116,104,101,114,101,32,105,115,32,110,111,110,101]⟩] 280,.cells #[.string ⟨#[116,104,101,114,101,32,105,115,32,111,110,101,32,97,108,114,101,97,100,121]⟩] 280,.cells #[.string ⟨#[116,104,101,114,101,32,105,115,32,110,111,32,114,111,111,109]⟩] 280,.cells #[.string ⟨#[105,116,32,100,111,101,115,32,110,111,116,32,115,116,97,110,100,32,115,111,32,116,104,97,116,32,116,104,105,115,32,99,97,110,32,98,101,32,100,111,110,101]⟩] 280,.cells #[.string ⟨#[105,116,32,105,115,32,111,117,116,32,111,102,32,114,97,110,103,101]⟩] 280],#[],[]⟩
 {w0 with heap:=((((((((((((((w0.heap).modify 5 fun
   | .cells _ t frozen=>.cells #[AY ⟨Em+0,0,none⟩] t frozen
   | o=>o)).modify 4 fun
   | .cells _ t frozen=>.cells #[AY ⟨Em+1,0,none⟩] t frozen
   | o=>o)).modify 0 fun
   | .cells _ t frozen=>.cells #[AY ⟨Em+2,0,none⟩] t frozen
   | o=>o)).modify 2 fun
   | .cells _ t frozen=>.cells #[AY ⟨Em+3,0,none⟩] t frozen
   | o=>o)).modify 3 fun
   | .cells _ t frozen=>.cells #[AY ⟨Em+4,0,none⟩] t frozen
   | o=>o)).modify 1 fun
   | .cells _ t frozen=>.cells #[AY ⟨Em+5,0,none⟩] t frozen
   | o=>o)).modify 6 fun
   | .cells _ t frozen=>.cells #[AY ⟨Em+6,0,none⟩] t frozen
   | o=>o)}
theorem zCe(os:Os)(args:Array Value):laidMetH Tryz.prog LX ((X3 os).forCall (fun _ _=>0) ⟨#[],args,[]⟩).memory:=by
 rw[MakeChecks.laidMetH_plain _ _ _ (by kernel_rfl)];exact laidMet_of_run (ps:=[.cell 5 0,.cell (Em+0) 0,.cell 4 0,.cell (Em+1) 0,.cell 0 0,.cell (Em+2) 0,.cell 2 0,.cell (Em+3) 0,.cell 3 0,.cell (Em+4) 0,.cell 1 0,.cell (Em+5) 0,.cell 6 0,.cell (Em+6) 0]) 8 (by kernel_rfl) (by kernel_rfl) (by kernel_rfl)
set_option linter.unusedSimpArgs false
open Classical in
def AU{ι : Type}(A:ι->List (Bool×List Tr))(C:ι->Prop)(R:ι->List (Bool×List Tr)):AE:=fun l=>
 if h:∃x,A x=l then some (C h.choose,R h.choose)else none
variable{ι:Type}
theorem Ac{A:ι->List (Bool×List Tr)}{C:ι->Prop}{R:ι->List (Bool×List Tr)}(a:List (Bool×List Tr)->ι)(b:∀x,a (A x)=x)(x:ι):AU A C R (A x)=some (C x,R x):=by
 unfold AU;have h:∃y,A y=A x:=⟨x,rfl⟩;rw[dif_pos h];have:h.choose=x:=by
  have:=congrArg a h.choose_spec
  rwa [b,b]at this
 rw[this]
def KE(T:Tb)(rv:List ResultVar)(rs:List (Bool×List Tr)):Exit->St->Prop:=fun e S=>match e with
 | .ret=>Ret T rv S rs
 | .normal=>Ret T rv S rs
 | _=>False
variable{P:Program}{f N:Nat}{T:Tb}{Γ:List (Nat×AE)}{fn:Func}{body:Code}{rv:Array ResultVar}
theorem Ar{A:ι->List (Bool×List Tr)}{C:ι->Prop}{R:ι->List (Bool×List Tr)}(g:DI P T)(hΓ : GOk P Γ)(m:P.follows .mixedOrders=true)(k:P.funcs[f]?=some fn)(i:fn.body=some body)(e:fn.ntmps=N)(b:fn.results=rv)(n:Nat)
 (h:∀x,C x->(A x).length<=N/\ev N T Γ n body ⟨Dz 0 (A x),[]⟩ (KE T rv.toList (R x))):Ae P f (AU A C R):=by
 refine zBL g hΓ m k i e b n (fun l c rs a j=>?_);unfold AU at a;split at a
 ·rename_i d
  cases a;have:=h d.choose j;rw[d.choose_spec]at this;exact this
 ·cases a
def LZ(T:Tb)(rv:List ResultVar)(rs:List (Bool×List Tr)):Exit->St->Prop:=fun e S=>match e with
 | .ret=>RetP T rv S rs
 | .normal=>RetP T rv S rs
 | _=>False
theorem F2{V:ι->List Tr}{A:ι->List (Bool×List Tr)}{C:ι->Prop}{R:ι->List (Bool×List Tr)}(g:DI P T)(hΓ : GOk P Γ)(o:P.follows .mixedOrders=true)(k:P.funcs[f]?=some fn)(i:fn.body=some body)(d:fn.ntmps=N)(b:fn.results=rv)(n:Nat)
 (h:∀x,C x->1+(A x).length<=N/\ev N T Γ n body ⟨(0,true,.m false [.p 0 0]) :: Dz 1 (A x),Fz (V x)⟩ (LZ T rv.toList (R x))):Cy P f (AU (fun x=>(true,V x) :: A x) C R):=by
 refine zBw g hΓ o k i d b n (fun vs l c rs a j=>?_);obtain⟨y,e,r,rfl⟩:∃y,(true,V y) :: A y=(true,vs) :: l/\C y/\R y=rs:=by
  unfold AU at a;split at a
  ·rename_i q
   cases a;exact⟨_,q.choose_spec,j,rfl⟩
  ·cases a
 simp only[List.cons.injEq,Prod.mk.injEq,true_and]at e;obtain⟨rfl,rfl⟩:=e;exact h y r
theorem zEn{V:ι->List Tr}{A:ι->List (Bool×List Tr)}{C:ι->Prop}{R:ι->List (Bool×List Tr)}(j:DI P T)(hΓ : GOk P Γ)(q:P.follows .mixedOrders=true)(p:P.funcs[f]?=some fn)(k:fn.body=some body)(i:fn.ntmps=N)(b:fn.results=rv)(n:Nat)
 (h:∀x,C x->(A x).length+1<=N/\ev N T Γ n body ⟨((A x).length,true,.m true (Ck 0 0 (V x))) :: Dz 0 (A x),DL 0 (V x)⟩ (KE T rv.toList (R x))):NQ P f (AU (fun x=>A x ++ [(true,V x)]) C R):=by
 refine zBv j hΓ q p k i b n (fun vs l c rs a o=>?_);obtain⟨y,e,s,rfl⟩:∃y,A y ++ [(true,V y)]=l ++ [(true,vs)]/\C y/\R y=rs:=by
  unfold AU at a;split at a
  ·rename_i r
   cases a;exact⟨_,r.choose_spec,o,rfl⟩
  ·cases a
 obtain⟨d,g⟩:=List.append_inj' e rfl;subst d;cases g;exact h y s
def SB(T:Tb)(rv:List ResultVar)(rs:List (Bool×List Tr)):Exit->St->Prop:=fun e S=>match e with
 | .ret=>RetN T rv S rs
 | .normal=>RetN T rv S rs
 | _=>False
theorem zEm{A:ι->List (Bool×List Tr)}{C:ι->Prop}{R:ι->List (Bool×List Tr)}(g:DI P T)(hΓ : GOk P Γ)(m:P.follows .mixedOrders=true)(k:P.funcs[f]?=some fn)(i:fn.body=some body)(e:fn.ntmps=N)(b:fn.results=rv)(n:Nat)
 (h:∀x,C x->(A x).length<=N/\ev N T Γ n body ⟨Dz 0 (A x),[]⟩ (SB T rv.toList (R x))):NP P f (AU A C R):=by
 refine zBu g hΓ m k i e b n (fun l c rs a j=>?_);unfold AU at a;split at a
 ·rename_i d
  cases a;have:=h d.choose j;rw[d.choose_spec]at this;exact this
 ·cases a
def Ay(h:Nat->Int):Nat->Nat->Tr:=fun i _=>.v (.int .i64 (h i))
def AQ:Tr->Int
 | .v (.int _ x)=>x
 | _=>0
def D2:Tr->Nat
 | .s _ _ n _=>n
 | _=>0
def BY:Tr->Nat->Nat->Tr
 | .s _ _ _ f=>f
 | _=>fun _ _=>.v (.bool false)
def nth(l:List (Bool×List Tr))(i j:Nat):Tr:=((l.getD i (false,[])).2).getD j (.v (.bool false))
def dB(p:Prop):Bool:=@decide p (Classical.propDecidable p)
variable{p:Prop}
theorem FT:dB p=true↔p:=@decide_eq_true_iff p (Classical.propDecidable p)
theorem PB:dB p=false↔¬p:=@decide_eq_false_iff_not p (Classical.propDecidable p)
theorem zJM{b:Bool}:(b=dB p)↔(b=true↔p):=by
 rw[Bool.eq_iff_iff,FT]
theorem Al{k:Nat}(h:k<=1000000000):IntKind.i64.wrap ((k:Int)+1)=((k+1:Nat):Int):=by
 rw[IntKind.wrap_i64];omega
abbrev Av.i(x:Int):Av:=.m false [.v (.int .i64 x)]
section
variable {N : Nat} {T : Tb} {Γ : List (Nat × AE)} {n : Nat} {tm : List (Nat × Bool × Av)} {ob : List (Nat × Ob)} {K : Exit -> St -> Prop} {ops : Array Oper} {dst : Option Nat}
def Ksq(N:Nat)(T:Tb)(Γ : List (Nat×AE))(n:Nat)(b:Code)(K:Exit->St->Prop):Exit->St->Prop:=fun e S=>match e with
 | .normal=>ev N T Γ n b S K
 | e=>K e S
def Kbl(id:Nat)(K:Exit->St->Prop):Exit->St->Prop:=fun e S=>match e with
 | .exit i=>if i=id then K .normal S else K (.exit i) S
 | e=>K e S
def bnd:Option (Prop×St)->(St->Prop)->Prop
 | some q,f=>q.1/\f q.2
 | none,_=>False
variable{a b:Code}
theorem zIV:ev N T Γ n (.seq a b) ⟨tm,ob⟩ K=ev N T Γ n a ⟨tm,ob⟩ (Ksq N T Γ n b K):=rfl
variable{id:Nat}
theorem zFK:ev N T Γ n (.block id a) ⟨tm,ob⟩ K=ev N T Γ n a ⟨tm,ob⟩ (Kbl id K):=rfl
theorem zHR:ev N T Γ n .skip ⟨tm,ob⟩ K=K .normal ⟨tm,ob⟩:=rfl
theorem zHQ:ev N T Γ n (.exit id) ⟨tm,ob⟩ K=K (.exit id) ⟨tm,ob⟩:=rfl
theorem zIU:ev N T Γ n .ret ⟨tm,ob⟩ K=K .ret ⟨tm,ob⟩:=rfl
theorem zIT:ev N T Γ n (.region id ops false) ⟨tm,ob⟩ K=runL N T Γ ops ops.toList ⟨fgt n tm,ob⟩ (K .normal):=rfl
theorem zIS:ev N T Γ n (.region id ops true) ⟨tm,ob⟩ K=runT N T Γ ops ops.toList ⟨fgt n tm,ob⟩ [] (fun S ts=>chk ops.toList ts=true/\K .normal S):=rfl
theorem zHP{c:Operand}:ev N T Γ n (.cond c a b) ⟨tm,ob⟩ K=match opd ⟨tm,ob⟩ c with
 | some (cc,.m false [.v (.bool t)])=>cc=true/\(t=true->ev N T Γ n a ⟨tm,ob⟩ K)/\(t=false->ev N T Γ n b ⟨tm,ob⟩ K)
 | _=>False:=rfl
variable{rv:List ResultVar}{rs:List (Bool×List Tr)}
theorem zIG:KE T rv rs .ret ⟨tm,ob⟩=Ret T rv ⟨tm,ob⟩ rs:=rfl
theorem zIF:KE T rv rs .normal ⟨tm,ob⟩=Ret T rv ⟨tm,ob⟩ rs:=rfl
theorem zJU:tb.ty=tyT:=rfl
theorem zIo:tb.bt=4:=rfl
theorem zJR:tb.pt=38:=rfl
theorem zJS:tb.sx=9:=rfl
theorem zJT:tb.tk=39:=rfl
theorem zJQ:tb.mv=27:=rfl
theorem zIp:tb.by'=22:=rfl
theorem zJP:tb.ik=ikT:=rfl
theorem zGI:LZ T rv rs .ret ⟨tm,ob⟩=RetP T rv ⟨tm,ob⟩ rs:=rfl
theorem zGy:LZ T rv rs .normal ⟨tm,ob⟩=RetP T rv ⟨tm,ob⟩ rs:=rfl
theorem zGx:SB T rv rs .ret ⟨tm,ob⟩=RetN T rv ⟨tm,ob⟩ rs:=rfl
theorem zGw:SB T rv rs .normal ⟨tm,ob⟩=RetN T rv ⟨tm,ob⟩ rs:=rfl
def Kl{α : Type}(I:α->St)(μ : α->Nat)(J:α->Prop)(a:α)(K:Exit->St->Prop):Exit->St->Prop:=fun e S'=>match e with
 | .normal=>∃a',J a'/\μ a' < μ a/\StW S' (I a')
 | e=>K e S'
variable{α:Type}
theorem zJb{I:α->St}{μ : α->Nat}{J:α->Prop}{a:α}:Kl I μ J a K .normal ⟨tm,ob⟩ = ∃b,J b/\μ b < μ a/\StW ⟨tm,ob⟩ (I b):=rfl
variable{S:St}
theorem zJd{I:α->St}{μ : α->Nat}{J:α->Prop}{a:α}{i:Nat}:Kl I μ J a K (.exit i) S=K (.exit i) S:=rfl
theorem zJc{I:α->St}{μ : α->Nat}{J:α->Prop}{a:α}:Kl I μ J a K .ret S=K .ret S:=rfl
theorem Ax(I:α->St)(μ : α->Nat)(J:α->Prop)(d:α){c:Code}(p:StW S (I d))(o:J d)(h:∀a,J a->ev N T Γ n c (I a) (Kl I μ J a K)):ev N T Γ n (.loop c) S K:=by
 refine⟨fun m S=>∃a,J a/\μ a=m/\S=I a,μ d,I d,p,⟨d,o,rfl,rfl⟩,?_⟩;rintro m S ⟨a,l,rfl,rfl⟩;refine cast (congrArg (ev N T Γ n c (I a)) ?_) (h a l);funext e S';cases e<;>first | rfl | skip
 refine propext ⟨fun ⟨b,g,i,j⟩=>⟨μ b,I b,j,i,b,g,rfl,rfl⟩,?_⟩;rintro⟨q,k,g,i,b,j,rfl,rfl⟩;exact⟨b,j,i,g⟩
theorem zJF:Ksq N T Γ n b K .normal S=ev N T Γ n b S K:=rfl
theorem zJH{i:Nat}:Ksq N T Γ n b K (.exit i) S=K (.exit i) S:=rfl
theorem zJG:Ksq N T Γ n b K .ret S=K .ret S:=rfl
theorem zJA:Kbl id K .normal S=K .normal S:=rfl
theorem zJC{i:Nat}:Kbl id K (.exit i) S=if i=id then K .normal S else K (.exit i) S:=rfl
theorem zJB:Kbl id K .ret S=K .ret S:=rfl
variable{f:St->Prop}
theorem zGe:runL N T Γ ops [] ⟨tm,ob⟩ f=f ⟨tm,ob⟩:=rfl
variable{r:List Oper}
theorem zEV{o:Oper}:runL N T Γ ops (o :: r) ⟨tm,ob⟩ f=bnd (stp N T Γ ops ⟨tm,ob⟩ o) (fun S=>runL N T Γ ops r S f):=by
 simp only[runL];cases stp N T Γ ops ⟨tm,ob⟩ o<;>rfl
variable{f:St->List Tc->Prop}
theorem zGf{ts:List Tc}:runT N T Γ ops [] ⟨tm,ob⟩ ts f=f ⟨tm,ob⟩ ts:=rfl
theorem zEW{o:Oper}{ts:List Tc}:runT N T Γ ops (o :: r) ⟨tm,ob⟩ ts f=bnd (stp N T Γ ops ⟨tm,ob⟩ o) (fun S=>runT N T Γ ops r S (ts ++ [tcAt T Γ ops ⟨tm,ob⟩ o]) f):=by
 simp only[runT];cases stp N T Γ ops ⟨tm,ob⟩ o<;>rfl
variable{f:St->Prop}
theorem zF8{q:Prop×St}:bnd (some q) f=(q.1/\f q.2):=rfl
theorem zF7:bnd none f=False:=rfl
variable{d:Option Nat}{t:Nat}{pos:String}{a:Array Edge}{g:Option (Nat×Bool)}
theorem zGr{x y z:Operand}:stp N T Γ ops ⟨tm,ob⟩ ⟨d,.pick x y z,t,pos,a,g⟩=stpP N (gtmp ops ⟨d,.pick x y z,t,pos,a,g⟩) ⟨tm,ob⟩ x y z d:=rfl
variable{op:Op}
theorem zIv(h:∀x y z,op≠.pick x y z):stp N T Γ ops ⟨tm,ob⟩ ⟨d,op,t,pos,a,g⟩=stp0 N T Γ (gtmp ops ⟨d,op,t,pos,a,g⟩) ⟨tm,ob⟩ op d:=by
 unfold stp;split
 ·rename_i x y z e;exact absurd e (h x y z)
 ·rfl
def IR(N:Nat)(gt:Option (Option Nat×Bool))(κ : Bool)(l:List (Bool×Av))(tm:List (Nat×Bool×Av))(dst:Option Nat)(ob0:List (Nat×Ob)):Option Dl->Option (Prop×St)
 | some D=>match dst,D.av with
  | some d,some av=>if d<N then some (FX κ l/\(κ = true->D.c),⟨put tm d (κ,av),obK κ ob0 D⟩)else none
  | none,none=>if gt.isSome then none else some (FX κ l/\(κ = true->D.c),⟨tm,D.ob⟩)
  | _,_=>none
 | none=>match κ,dst with
  | false,some d=>if d<N then some (True,⟨put tm d (false,.m false [.v (.bool false)]),ob0⟩)else none
  | _,_=>none
def onK(f:Bool->List (Bool×Av)->Option (Prop×St)):Option Bool->Option (List (Bool×Av))->Option (Prop×St)
 | some κ,some l=>f κ l
 | _,_=>none
def Fc(N:Nat)(T:Tb)(Γ : List (Nat×AE))(gt:Option (Option Nat×Bool))(tm:List (Nat×Bool×Av))(ob:List (Nat×Ob))(op:Op)(dst:Option Nat)(κ : Bool)(l:List (Bool×Av)):Option (Prop×St):=IR N gt κ l tm dst ob (B6 T Γ dst ob op (l.map (·.2)))
variable{gt:Option (Option Nat×Bool)}
theorem zHz:stp0 N T Γ gt ⟨tm,ob⟩ op dst=onK (Fc N T Γ gt tm ob op dst) (kap ⟨tm,ob⟩ gt) (opds ⟨tm,ob⟩ op.operands.toList):=by
 unfold stp0;cases kap ⟨tm,ob⟩ gt with
 | none=>rfl
 | some κ=>
  cases opds ⟨tm,ob⟩ op.operands.toList with
  | none=>rfl
  | some l=>
   simp only[onK,Fc,IR];cases B6 T Γ dst ob op (l.map (·.2))<;>rfl
variable{κ:Bool}{l:List (Bool×Av)}
theorem zGD{f:Bool->List (Bool×Av)->Option (Prop×St)}:onK f (some κ) (some l)=f κ l:=rfl
theorem zIz:Fc N T Γ gt tm ob op dst κ l=IR N gt κ l tm dst ob (B6 T Γ dst ob op (l.map (·.2))):=rfl
variable{g:Option (Option Nat×Bool)}{a:List (Nat×Ob)}{d:Nat}{c:Prop}{av:Av}
theorem zIZ{nw:Bool}:IR N g true l tm (some d) a (some ⟨c,some av,ob,nw⟩)=if d<N then some (FX true l/\(true=true->c),⟨put tm d (true,av),ob⟩)else none:=rfl
theorem zIX:IR N g κ l tm (some d) a (some ⟨c,some av,ob,false⟩)=if d<N then some (FX κ l/\(κ = true->c),⟨put tm d (κ,av),ob⟩)else none:=by cases κ<;>rfl
theorem zIW:IR N g false l tm (some d) a (some ⟨c,some av,ob,true⟩)=if d<N then some (FX false l/\(false=true->c),⟨put tm d (false,av),a⟩)else none:=rfl
theorem zIa:IR N g false l tm (some d) a none=if d<N then some (True,⟨put tm d (false,.m false [.v (.bool false)]),a⟩)else none:=rfl
theorem zIY{nw:Bool}:IR N none κ l tm none a (some ⟨c,none,ob,nw⟩)=some (FX κ l/\(κ = true->c),⟨tm,ob⟩):=rfl
variable{h:Nat->Int}
theorem zFa{i j:Nat}:Ay h i j = .v (.int .i64 (h i)):=rfl
variable{d:Option Nat}{a:Array Edge}
theorem zDk:gtmp ops ⟨d,op,t,pos,a,none⟩=none:=rfl
theorem zDl{j:Nat}{b:Bool}{os:List Oper}:gtmp os.toArray ⟨d,op,t,pos,a,some (j,b)⟩=some ((os[j]?).bind (·.dst),b):=by
 simp only[gtmp,List.getElem?_toArray];cases (os[j]?).bind (·.dst)<;>rfl
def onT(T:Tb)(Γ : List (Nat×AE))(ob:List (Nat×Ob))(op:Op)(d:Option Nat)(rd:List Nat):Option (List (Bool×Av))->Tc
 | some l=>⟨rd,d,tks T Γ ob op d (l.map (·.2))⟩
 | none=>tc0
theorem zI4{g:Option (Nat×Bool)}:tcAt T Γ ops ⟨tm,ob⟩ ⟨d,op,t,pos,a,g⟩=onT T Γ ob op d (tmpsOf op.operands.toList ++ LV (gtmp ops ⟨d,op,t,pos,a,g⟩)) (opds ⟨tm,ob⟩ op.operands.toList):=by
 unfold tcAt onT;cases opds ⟨tm,ob⟩ op.operands.toList<;>rfl
theorem zGE{rd:List Nat}:onT T Γ ob op d rd (some l)=⟨rd,d,tks T Γ ob op d (l.map (·.2))⟩:=rfl
theorem zFE:B6 T Γ dst ob op []=coreU T Γ dst ob op []:=rfl
theorem za{x:Av}{l:List Av}:B6 T Γ dst ob op (x :: l)=coreU T Γ dst ob op (x :: l):=rfl
end
def ptrsT(ks kb:Nat->Int):Nat->Nat->Tr:=fun i c=>match c with
 | 0=>.v (.int .i64 (ks i))
 | 1=>.v (.int .i64 (kb i))
 | _=>.v (.bool false)
def Ao(fl:Fl)(s:Nat->AD):Nat->Nat->Tr:=fun i c=>match c with
 | 0=>.v (.int .i64 (s i).birth)
 | 1=>.s fl 2 (s i).kn (ptrsT (s i).ks (s i).kb)
 | _=>.v (.string (s i).data)
variable{ks kb:Nat->Int}
theorem zH8{i:Nat}:ptrsT ks kb i 0 = .v (.int .i64 (ks i)):=rfl
theorem zHq{i:Nat}:ptrsT ks kb i 1 = .v (.int .i64 (kb i)):=rfl
variable{fl:Fl}{s:Nat->AD}
theorem zGl{i:Nat}:Ao fl s i 0 = .v (.int .i64 (s i).birth):=rfl
theorem zGm{i:Nat}:Ao fl s i 1 = .s fl 2 (s i).kn (ptrsT (s i).ks (s i).kb):=rfl
theorem zGn{i:Nat}:Ao fl s i 2 = .v (.string (s i).data):=rfl
theorem zIf{x:Value}:(Tr.v x).lend = .v x:=rfl
variable{k n:Nat}{h:Nat->Int}
theorem zDz:(Tr.s fl k n (Ay h)).lend = .s .b k n (Ay h):=rfl
variable{f g:Nat->Int}
theorem MO:(Tr.s fl k n (ptrsT f g)).lend = .s .b k n (ptrsT f g):=by
 simp only[Tr.lend];congr 1;funext i c
 match c with
 | 0=>rfl
 | 1=>rfl
 | c+2=>rfl
def Ep(f:Nat->Int)(a:Nat)(x:Int):Nat->Int:=fun i=>if i=a then x else f i
theorem QD{a:Nat}{x y:Int}:Ab (ptrsT f g) a 0 [.v (.int .i64 x),.v (.int .i64 y)]=ptrsT (Ep f a x) (Ep g a y):=by
 funext i c;by_cases h:i=a
 ·subst h
  match c with
  | 0=>simp[Ab,ptrsT,Ep]
  | 1=>simp[Ab,ptrsT,Ep]
  | c+2=>simp[Ab,ptrsT]
 ·match c with
  | 0=>simp[Ab,ptrsT,Ep,h]
  | 1=>simp[Ab,ptrsT,Ep,h]
  | c+2=>simp[Ab,ptrsT,h]
theorem zAQ{a:Fl}:(Tr.s fl k n (Ao a s)).lend = .s .b k n (Ao .b s):=by
 simp only[Tr.lend];congr 1;funext i c
 match c with
 | 0=>rfl
 | 1=>exact MO
 | c+2=>rfl
theorem AA{f:Nat}{b:Code}(h:Tryz.prog.funcs[f]?=some fn)(a:fn.body=some b)(hn:(fn.name == "runtime.NumGoroutine")=false):DP Tryz.prog f:=fun args w=>by
 simp only[beq_eq_false_iff_ne,ne_eq]at hn;simp[callFunc,h,a,hn]
def C1:Tr->ByteArray
 | .v (.string x)=>x
 | _=>⟨#[]⟩
abbrev iT(x:Int):Bool×List Tr:=(false,[.v (.int .i64 x)])
abbrev pT(a b:Int):Bool×List Tr:=(true,[.v (.int .i64 a),.v (.int .i64 b)])
abbrev slT(s:AD):Bool×List Tr:=(true,[.v (.int .i64 s.birth),.s .b 2 s.kn (ptrsT s.ks s.kb),.v (.string s.data)])
abbrev poT(n:Nat)(s:Nat->AD)(hn:Nat)(h:Nat->Int):Bool×List Tr:=(true,[.s .b 3 n (Ao .b s),.s .b 1 hn (Ay h)])
noncomputable abbrev bR (p:Prop):List (Bool×List Tr):=[(false,[.v (.bool (dB p))])]
def JM(a b c:Tr):AD:=⟨AQ a,D2 b,fun i=>AQ (BY b i 0),fun i=>AQ (BY b i 1),C1 c⟩
def CY(a b:Tr):A8:=⟨D2 a,fun i=>JM (BY a i 0) (BY a i 1) (BY a i 2),D2 b,fun i=>AQ (BY b i 0)⟩
attribute [go_sem] Dz List.map_cons List.map_nil Tr.cv zIV zFK zHR zHQ zIU zIT zIS zHP zJF zJH zJG zJA zJC zJB zJb zJd zJc zGe zEV zGf zEW zF8 zF7 zGr zIv zDk zDl zI4 zGE tmpsOf LV zHz zGD zIz zIZ zIX zIW zIa zIY stpP opds opd opdC kap FX zFE za coreU bin Bj PA get put dlO fgt zJU zIo zJR zJS tyT zIG zIF Op.operands Call.operands evLoad evLen evStore evAlloc KR and_true true_and List.append_nil List.nil_append List.cons_append Ret resCv JH Lh cellM Eo Mr E4 StW StR hpT hpO hpV hpA hpL hpC sg nin ST bdO tmW obW AvE CsE CvE Av.tup Av.ids Cv.ids inD ObE Ob.ids TrE.refl zFa zH8 zHq zGl zGm zGn zDz MO zAQ zIf FT PB zJM evCall argL argOf Ej outOb obO Jd Ck cvO tot Tr.own rid partsOf fillC Mb Es frz frz1 evBuildSlice zc trs Cv.tr evSlice Option.toArray_none Option.toArray_some evMakeSlice evAppend dstOf srcOf D4 zJT zJQ zIp zJP ikT zGI zGy zGx zGw RetP RetN Fz DL evLd evSt evStoreH JO evAppendM evAppendT tlOf mvOf rowE shp evTake oOf evC evCallP evCallN evCallO unlast Bv D3 Ig argsF SW C7 pmC varT vT evField evConv dB0 Option.bind_some Option.bind_none Option.map_some Option.map_none Option.isSome_some Option.isSome_none
def mIs:AE:=AU (fun q:Int×Int×Int=>[iT q.1,iT q.2.1,iT q.2.2]) (fun _=>True) (fun q=>bR (q.2.1<=q.1/\q.1<=q.2.2))
theorem Lc(x a b:Int):mIs [iT x,iT a,iT b]=some (True,bR (a<=x/\x<=b)):=Ac (fun l=>(AQ (nth l 0 0),AQ (nth l 1 0),AQ (nth l 2 0))) (fun _=>rfl) (x,a,b)
theorem MG:Ae Tryz.prog 110 mIs:=by
 refine Ar Ah GOk.nil mixed Tryz.func110 rfl Tryz.ntmps110 Tryz.results110 7 ?_;rintro⟨x,a,b⟩ -;refine⟨by simp,?_⟩;simp[go_sem]
def Zk:AE:=AU (fun q:Int=>[iT q]) (fun _=>True) (fun q=>bR (Df q))
theorem Qn(x:Int):Zk [iT x]=some (True,bR (Df x)):=Ac (fun l=>AQ (nth l 0 0)) (fun _=>rfl) x
theorem Rg:Ae Tryz.prog 131 Zk:=by
 refine Ar Ah (GOk.cons MG (AA Tryz.func110 rfl rfl) GOk.nil) mixed Tryz.func131 rfl Tryz.ntmps131 Tryz.results131 3 ?_;rintro x -;refine⟨by simp,?_⟩;simp[go_sem,Lc,Df]
def zE:AE:=AU (fun q:Nat×(Nat->Int)×Int=>[(false,[.s .b 1 q.1 (Ay q.2.1)]),iT q.2.2]) (fun q=>q.1<=1000000) (fun q=>bR (Has q.1 q.2.1 q.2.2))
theorem Kh(n:Nat)(h:Nat->Int)(x:Int):zE [(false,[.s .b 1 n (Ay h)]),iT x]=some (n<=1000000,bR (Has n h x)):=Ac (fun l=>(D2 (nth l 0 0),fun i=>AQ (BY (nth l 0 0) i 0),AQ (nth l 1 0))) (fun _=>rfl) (n,h,x)
theorem MN:Ae Tryz.prog 67 zE:=by
 refine Ar Ah GOk.nil mixed Tryz.func67 rfl Tryz.ntmps67 Tryz.results67 6 ?_;rintro⟨n,h,x⟩ hn;replace hn:n<=1000000:=hn;refine⟨by simp,?_⟩;simp[go_sem];refine Ax (fun k:Nat=>⟨[(0,true,.m false [.s .b 1 n (Ay h)]),(1,true,.i x),(5,true,.i k)],[]⟩) (fun k=>n - k) (fun k=>k<=n/\∀i,i<k->h i≠x) 0 (by simp[go_sem]) (by simp) ?_;rintro k ⟨d,a⟩;simp[go_sem,Al (show k<=1000000000 by omega)];refine⟨fun c=>⟨c,fun e=>⟨k,c,e⟩,fun e=>⟨k+1,⟨by omega,Bf c a e⟩,by omega,rfl⟩⟩,fun c ⟨j,h1,h2⟩=>a j (by omega) h2⟩
def yP:AE:=AU (fun s:AD=>[slT s]) (fun _=>True) (fun s=>bR (An s))
theorem M7(s:AD):yP [slT s]=some (True,bR (An s)):=Ac (fun l=>JM (nth l 0 0) (nth l 0 1) (nth l 0 2)) (fun _=>rfl) s
theorem OW:Ae Tryz.prog 66 yP:=by
 refine Ar Ah GOk.nil mixed Tryz.func66 rfl Tryz.ntmps66 Tryz.results66 3 ?_;rintro s -;refine⟨by simp,?_⟩;simp[go_sem,An,and_assoc]
def yU:AE:=AU (fun q:Int×Int=>[pT q.1 q.2]) (fun _=>True) (fun q=>bR (q.1=0/\q.2=0))
theorem GB(a b:Int):yU [pT a b]=some (True,bR (a=0/\b=0)):=Ac (fun l=>(AQ (nth l 0 0),AQ (nth l 0 1))) (fun _=>rfl) (a,b)
theorem LI:Ae Tryz.prog 111 yU:=by
 refine Ar Ah GOk.nil mixed Tryz.func111 rfl Tryz.ntmps111 Tryz.results111 3 ?_;rintro⟨a,b⟩ -;refine⟨by simp,?_⟩;simp[go_sem]
def Tv:AE:=AU (fun q:A8×Int×Int=>[poT q.1.n q.1.s q.1.hn q.1.h,pT q.2.1 q.2.2]) (fun q=>q.1.n<=1000000) (fun q=>bR (BM q.1 q.2.1 q.2.2))
theorem RX(p:A8)(a b:Int):Tv [poT p.n p.s p.hn p.h,pT a b]=some (p.n<=1000000,bR (BM p a b)):=Ac (fun l=>(CY (nth l 0 0) (nth l 0 1),AQ (nth l 1 0),AQ (nth l 1 1))) (fun _=>rfl) (p,a,b)
theorem Ri:Ae Tryz.prog 157 Tv:=by
 refine Ar Ah GOk.nil mixed Tryz.func157 rfl Tryz.ntmps157 Tryz.results157 5 ?_;rintro⟨p,a,b⟩ hn;replace hn:p.n<=1000000:=hn;refine⟨by simp,?_⟩;simp[go_sem];exact⟨fun _ c d=>⟨c,d⟩,by kernel_rfl,by unfold BM;omega⟩
def yO:AE:=AU (fun q:A8×AD=>[poT q.1.n q.1.s q.1.hn q.1.h,slT q.2]) (fun q=>q.1.n<=1000000) (fun q=>bR (CD q.1 q.2))
theorem zF5(p:A8)(s:AD):yO [poT p.n p.s p.hn p.h,slT s]=some (p.n<=1000000,bR (CD p s)):=Ac (fun l=>(CY (nth l 0 0) (nth l 0 1),JM (nth l 1 0) (nth l 1 1) (nth l 1 2))) (fun _=>rfl) (p,s)
theorem zB5:Ae Tryz.prog 109 yO:=by
 refine Ar Ah (GOk.cons Rg (AA Tryz.func131 rfl rfl) (GOk.cons LI (AA Tryz.func111 rfl rfl) (GOk.cons Ri (AA Tryz.func157 rfl rfl) GOk.nil))) mixed Tryz.func109 rfl Tryz.ntmps109 Tryz.results109 7 ?_;rintro⟨p,s⟩ hn;replace hn:p.n<=1000000:=hn;refine⟨by simp,?_⟩;simp[go_sem,Qn];refine⟨fun j h=>j h.1,fun j=>⟨fun o=>?_,fun o=>⟨fun a h=>?_,fun t r=>?_⟩⟩⟩
 ·unfold CD;constructor
  ·exact fun h=>⟨j,.inl ⟨o,by omega⟩⟩
  ·rintro⟨-,h | h⟩<;>omega
 ·rcases h.2 with h | h
  ·omega
  ·rcases a with a | a
   ·omega
   ·exact a (by simpa using h.2.1)
 refine Ax (fun k:Nat=>⟨[(2,true,.m false [.p 2 0]),(3,true,.m false [.p 3 0]),(5,true,.i k)],[(2,.var [.s .b 3 p.n (Ao .b p.s),.s .b 1 p.hn (Ay p.h)]),(3,.var [.v (.int .i64 s.birth),.s .b 2 s.kn (ptrsT s.ks s.kb),.v (.string s.data)])]⟩) (fun k=>s.kn - k) (fun k=>k<=s.kn/\∀i,i<k->NC p s.birth (s.ks i) (s.kb i)) 0 (by simp[go_sem]) (by simp) ?_;rintro k ⟨u,d⟩;simp[go_sem,Al (show k<=1000000000 by omega),GB,RX,hn];refine⟨fun l=>⟨l,fun a c=>⟨a,c⟩,fun a c h=>?_,fun a=>⟨k+1,⟨by omega,Bf l d ?_⟩,by omega,rfl⟩⟩,fun l=>⟨j,.inr ⟨by omega,by simp[r],fun i hi=>d i (by omega)⟩⟩⟩
 ·rcases h.2 with h | h
  ·omega
  ·rcases h.2.2 k l with g | g
   ·exact a g.1 g.2
   ·rcases c with c | c
    ·exact c g.1
    ·omega
 ·by_cases c:s.ks k=0/\s.kb k=0
  ·exact .inl c
  ·exact .inr (a (fun e q=>c ⟨e,q⟩))
def PK:AE:=AU (fun p:A8=>[poT p.n p.s p.hn p.h]) (fun p=>p.n<=1000000/\p.hn<=1000000) (fun p=>bR (Ag p))
theorem OH(p:A8):PK [poT p.n p.s p.hn p.h]=some (p.n<=1000000/\p.hn<=1000000,bR (Ag p)):=Ac (fun l=>CY (nth l 0 0) (nth l 0 1)) (fun _=>rfl) p
theorem Oz:Ae Tryz.prog 60 PK:=by
 refine Ar Ah (GOk.cons OW (AA Tryz.func66 rfl rfl) (GOk.cons MN (AA Tryz.func67 rfl rfl) (GOk.cons zB5 (AA Tryz.func109 rfl rfl) GOk.nil))) mixed Tryz.func60 rfl Tryz.ntmps60 Tryz.results60 6 ?_;rintro p ⟨hn,v⟩;refine⟨by simp,?_⟩;simp[go_sem];refine⟨fun q h=>?_,fun q=>?_⟩
 ·have:=h.1;omega
 refine Ax (fun k:Nat=>⟨[(1,true,.m false [.p 1 0]),(3,true,.i k)],[(1,.var [.s .b 3 p.n (Ao .b p.s),.s .b 1 p.hn (Ay p.h)])]⟩) (fun k=>p.n - k) (fun k=>k<=p.n/\∀i,i<k->An (p.s i)\/CD p (p.s i)) 0 (by simp[go_sem]) (by simp) ?_;rintro k ⟨y,e⟩;simp[go_sem,Al (show k<=1000000000 by omega),M7,zF5,hn];refine⟨fun c=>⟨c,fun _=>c,by kernel_rfl,?_⟩,fun c=>?_⟩
 ·exact⟨fun a g h=>(h.2.1 k c).elim a g,fun h=>⟨k+1,⟨by omega,Bf c e (Classical.or_iff_not_imp_left.2 h)⟩,by omega,rfl⟩⟩
 refine Ax (fun j:Nat=>⟨[(4,true,.i j),(1,true,.m false [.p 1 0])],[(1,.var [.s .b 3 p.n (Ao .b p.s),.s .b 1 p.hn (Ay p.h)])]⟩) (fun j=>p.hn - j) (fun j=>j<=p.hn/\∀i,i<j->Ze p i) 0 (by simp[go_sem]) (by simp) ?_;rintro j ⟨u,d⟩;simp[go_sem,Al (show j<=1000000000 by omega),M7,Kh,v];refine⟨fun c=>⟨c,fun _ _ _=>u,fun _ _ _=>by omega,fun a h=>?_,fun a g r t=>⟨j+1,⟨by omega,Bf c d ⟨a,g,r,t⟩⟩,by omega,rfl⟩⟩,fun c=>⟨by omega,fun i hi=>e i (by omega),fun i hi=>d i (by omega)⟩⟩;obtain⟨w,x,l,o⟩:=h.2.2 j c;rcases a with(a | a) | a
 ·omega
 ·exact l a
 ·exact o a
set_option maxRecDepth 20000
set_option maxHeartbeats 1600000
variable{F G:Nat->Nat->Tr}
theorem GW:Ai F 0 G=G:=by
 funext p q;simp[Ai]
variable{a:Nat->Int}
theorem I6{b:Nat->Int}:(fun p q=>(ptrsT a b p q).nt)=ptrsT a b:=by
 funext p q;unfold ptrsT;split<;>rfl
theorem TE:(fun p q=>(Ay a p q).nt)=Ay a:=rfl
def D6{α : Type}(enc:α->Nat->Tr)(d:α)(l:List α):Nat->Nat->Tr:=fun i c=>enc (l[i]?.getD d) c
section
variable {α : Type} {enc : α -> Nat -> Tr} {d : α} {l m : List α} {fl : Fl} {k : Nat}
theorem Ge(h:l=m):TrE (.s fl k l.length (D6 enc d l)) (.s fl k m.length (D6 enc d m)):=h▸TrE.refl _
theorem Lv(h:m = []):TrE (.s fl k 0 F) (.s fl k m.length (D6 enc d m)):=by
 subst h;exact⟨.inl rfl,rfl,rfl,fun i j hi=>by omega⟩
theorem zHs{e:Nat}{x:List α}(b:e=x.length)(hF:∀i,(h:i<x.length)->∀j,j<k->F i j=enc x[i] j)(h:l ++ x=m):TrE (.s fl k (l.length+e) (Ai (D6 enc d l) l.length F)) (.s fl k m.length (D6 enc d m)):=by
 subst h b;refine⟨.inl rfl,rfl,by simp,fun i j hi c=>TrE.of_eq ?_⟩;by_cases a:i<l.length
 ·simp[Ai,D6,a,List.getElem?_append_left a]
 ·simp only[Ai,D6,if_neg a];rw[hF (i - l.length) (by omega) j c,List.getElem?_append_right (by omega),List.getElem?_eq_getElem (by omega)];rfl
theorem Gd{ts:List Tr}{x:α}(c:∀j,j<k->(ts[j]?.getD (.v (.bool false))).nt=enc x j)(h:l ++ [x]=m):TrE (.s fl k (l.length+1) (Ai (D6 enc d l) l.length (fun p q=>(ts[p*k+q]?.getD (.v (.bool false))).nt))) (.s fl k m.length (D6 enc d m)):=by
 refine zHs (x:=[x]) rfl (fun i hi j b=>?_) h;have a:i=0:=by simpa using hi
 subst a;simpa using c j b
theorem zGY(h:∀x j,j<k->(enc x j).kept):(Tr.s .o k n (D6 enc d l)).kept:=⟨by simp,fun i j _ a=>h _ j a⟩
end
def encP(x:Int×Int):Nat->Tr
 | 0=>.v (.int .i64 x.1)
 | 1=>.v (.int .i64 x.2)
 | _=>.v (.bool false)
abbrev ptL(l:List (Int×Int)):Nat->Nat->Tr:=D6 encP (0,0) l
theorem zIC(l:List (Int×Int)):ptL l=ptrsT (fun i=>(l[i]?.getD (0,0)).1) (fun i=>(l[i]?.getD (0,0)).2):=by
 funext i c
 match c with
 | 0=>rfl
 | 1=>rfl
 | c+2=>rfl
theorem I5{a b:Int}:∀j,j<2->([Tr.v (Value.int .i64 a),Tr.v (Value.int .i64 b)][j]?.getD (.v (.bool false))).nt=encP (a,b) j
 | 0,_=>rfl
 | 1,_=>rfl
theorem Gc{l:List (Int×Int)}:(Tr.s .o 2 n (ptL l)).kept:=zGY fun x j _=>by unfold encP;split<;>trivial
theorem L3{b:Nat->Int}:(Tr.s .o 2 n (ptrsT a b)).kept↔True:=by
 refine⟨fun _=>trivial,fun _=>⟨by simp,fun i j _ _=>?_⟩⟩;unfold ptrsT;split<;>trivial
abbrev slO(s:AD):Bool×List Tr:=(true,[.v (.int .i64 s.birth),.s .o 2 s.kn (ptrsT s.ks s.kb),.v (.string s.data)])
def ql:AE:=AU (fun s:AD=>[slT s]) (fun s=>s.kn<=1000000) (fun s=>[slO s])
theorem zFu(s:AD):ql [slT s]=some (s.kn<=1000000,[slO s]):=Ac (fun l=>JM (nth l 0 0) (nth l 0 1) (nth l 0 2)) (fun _=>rfl) s
theorem zB7:Ae Tryz.prog 130 ql:=by
 refine Ar Ah GOk.nil mixed Tryz.func130 rfl Tryz.ntmps130 Tryz.results130 3 ?_;rintro s hn;replace hn:s.kn<=1000000:=hn;refine⟨by simp,?_⟩;simp[go_sem,GW,I6,L3];omega
def zJ:AE:=AU (fun q:Nat×(Nat->Int)×(Nat->Int)=>[(false,[.s .b 2 q.1 (ptrsT q.2.1 q.2.2)])]) (fun q=>q.1<=1000000) (fun q=>[(false,[.s .o 2 (kidsUp q.2.1 q.2.2 q.1).length (ptL (kidsUp q.2.1 q.2.2 q.1))])])
theorem Ts(n:Nat)(f g:Nat->Int):zJ [(false,[.s .b 2 n (ptrsT f g)])]=some (n<=1000000,[(false,[.s .o 2 (kidsUp f g n).length (ptL (kidsUp f g n))])]):=Ac (fun l=>(D2 (nth l 0 0),fun i=>AQ (BY (nth l 0 0) i 0),fun i=>AQ (BY (nth l 0 0) i 1))) (fun _=>rfl) (n,f,g)
theorem X0:Ae Tryz.prog 213 zJ:=by
 refine Ar Ah (GOk.cons LI (AA Tryz.func111 rfl rfl) GOk.nil) mixed Tryz.func213 rfl Tryz.ntmps213 Tryz.results213 5 ?_;rintro⟨n,f,g⟩ hn;replace hn:n<=1000000:=hn;refine⟨by simp,?_⟩;simp[go_sem];refine Ax (fun k:Nat=>⟨[(3,true,.m false [.h 7]),(0,true,.m false [.s .b 2 n (ptrsT f g)]),(4,true,.i k)],[(7,.row 2 (kidsUp f g k).length (ptL (kidsUp f g k)))]⟩) (fun k=>n - k) (fun k=>k<=n) 0 (by simp[go_sem,kidsUp];exact Lv rfl) (by simp) ?_;rintro k j;have l:=J9 f g k;simp[go_sem,Al (show k<=1000000000 by omega),GB];refine⟨fun a=>⟨a,fun h=>⟨a,by omega,k+1,by omega,by omega,by omega,Gd I5 (by simp[kidsUp,one,Nil,show ¬(f k=0/\g k=0)from fun e=>h e.1 e.2])⟩,fun c d=>⟨k+1,by omega,by omega,by omega,Ge (by simp[kidsUp,one,Nil,c,d])⟩⟩,fun a=>?_⟩;cases (show k=n from by omega);exact⟨Ge rfl,Gc⟩
def qn:AE:=AU (fun q:Nat×(Nat->Int)×(Nat->Int)=>[(false,[.s .b 2 q.1 (ptrsT q.2.1 q.2.2)])]) (fun q=>q.1<=1000000) (fun q=>bR (kidsUp q.2.1 q.2.2 q.1≠[]))
theorem zFv(n:Nat)(f g:Nat->Int):qn [(false,[.s .b 2 n (ptrsT f g)])]=some (n<=1000000,bR (kidsUp f g n≠[])):=Ac (fun l=>(D2 (nth l 0 0),fun i=>AQ (BY (nth l 0 0) i 0),fun i=>AQ (BY (nth l 0 0) i 1))) (fun _=>rfl) (n,f,g)
theorem zAL:Ae Tryz.prog 211 qn:=by
 refine Ar Ah (GOk.cons X0 (AA Tryz.func213 rfl rfl) GOk.nil) mixed Tryz.func211 rfl Tryz.ntmps211 Tryz.results211 3 ?_;rintro⟨n,f,g⟩ hn;replace hn:n<=1000000:=hn;refine⟨by simp,?_⟩;simp[go_sem,Ts,hn];exact List.length_pos_iff
def Tq:AE:=AU (fun q:Int=>[iT q]) (fun _=>True) (fun q=>bR (0<=q/\q<=63))
theorem OY(x:Int):Tq [iT x]=some (True,bR (0<=x/\x<=63)):=Ac (fun l=>AQ (nth l 0 0)) (fun _=>rfl) x
theorem ZA:Ae Tryz.prog 208 Tq:=by
 refine Ar Ah (GOk.cons MG (AA Tryz.func110 rfl rfl) GOk.nil) mixed Tryz.func208 rfl Tryz.ntmps208 Tryz.results208 3 ?_;rintro x -;refine⟨by simp,?_⟩;simp[go_sem,Lc]
def yT:AE:=AU (fun q:A8×Int×Int=>[poT q.1.n q.1.s q.1.hn q.1.h,pT q.2.1 q.2.2]) (fun q=>q.1.n<=1000000/\q.1.hn<=1000000) (fun q=>bR (Lo q.1 q.2.1 q.2.2))
theorem VI(p:A8)(a b:Int):yT [poT p.n p.s p.hn p.h,pT a b]=some (p.n<=1000000/\p.hn<=1000000,bR (Lo p a b)):=Ac (fun l=>(CY (nth l 0 0) (nth l 0 1),AQ (nth l 1 0),AQ (nth l 1 1))) (fun _=>rfl) (p,a,b)
theorem zB8:Ae Tryz.prog 112 yT:=by
 refine Ar Ah (GOk.cons Ri (AA Tryz.func157 rfl rfl) (GOk.cons MN (AA Tryz.func67 rfl rfl) GOk.nil)) mixed Tryz.func112 rfl Tryz.ntmps112 Tryz.results112 5 ?_;rintro⟨p,a,b⟩ ⟨hn,c⟩;replace hn:p.n<=1000000:=hn;replace c:p.hn<=1000000:=c;refine⟨by simp,?_⟩;simp[go_sem,RX,Kh,hn,c];exact⟨fun h=>⟨h.2.1,h.2.2.1⟩,and_assoc⟩
def yX:AE:=AU (fun q:A8×Int×Int=>[poT q.1.n q.1.s q.1.hn q.1.h,pT q.2.1 q.2.2]) (fun q=>q.1.n<=1000000/\q.1.hn<=1000000) (fun q=>bR (Lp q.1 q.2.1 q.2.2))
theorem zFo(p:A8)(a b:Int):yX [poT p.n p.s p.hn p.h,pT a b]=some (p.n<=1000000/\p.hn<=1000000,bR (Lp p a b)):=Ac (fun l=>(CY (nth l 0 0) (nth l 0 1),AQ (nth l 1 0),AQ (nth l 1 1))) (fun _=>rfl) (p,a,b)
theorem zB9:Ae Tryz.prog 113 yX:=by
 refine Ar Ah (GOk.cons Ri (AA Tryz.func157 rfl rfl) (GOk.cons MN (AA Tryz.func67 rfl rfl) GOk.nil)) mixed Tryz.func113 rfl Tryz.ntmps113 Tryz.results113 5 ?_;rintro⟨p,a,b⟩ ⟨hn,c⟩;replace hn:p.n<=1000000:=hn;replace c:p.hn<=1000000:=c;refine⟨by simp,?_⟩;simp[go_sem,RX,Kh,hn,c];exact⟨fun h=>⟨h.2.1,h.2.2.1⟩,and_assoc⟩
set_option maxRecDepth 20000
set_option maxHeartbeats 1600000
theorem BT:(Tr.s .o 3 n (Ao .z s)).kept:=⟨by simp,fun i j _ d=>match j,d with
 | 0,_=>trivial
 | 1,_=>⟨by simp,fun a b _ c=>match b,c with
  | 0,_=>trivial
  | 1,_=>trivial⟩
 | 2,_=>trivial⟩
theorem BX:(Tr.s .o 1 n (Ay h)).kept:=⟨by simp,fun i j _ _=>trivial⟩
theorem zGa(h:∀j,j<k->G 0 j=F n j):TrE (.s fl k (n+1) (Ai F n G)) (.s fl k (n+1) F):=by
 refine⟨.inl rfl,rfl,rfl,fun i j hi b=>TrE.of_eq ?_⟩;unfold Ai;by_cases a:i<n
 ·rw[if_pos a]
 ·cases (show i=n by omega);rw[if_neg a,Nat.sub_self,h j b]
abbrev poO(p:A8):Bool×List Tr:=(true,[.s .o 3 p.n (Ao .z p.s),.s .o 1 p.hn (Ay p.h)])
def yJ:AE:=AU (fun p:A8=>[poT p.n p.s p.hn p.h]) (fun p=>p.n<=1000000/\p.hn<=1000000/\∀i,i<p.n->(p.s i).kn<=1000000) (fun p=>[poO p])
theorem MH(p:A8):yJ [poT p.n p.s p.hn p.h]=some (p.n<=1000000/\p.hn<=1000000/\∀i,i<p.n->(p.s i).kn<=1000000,[poO p]):=Ac (fun l=>CY (nth l 0 0) (nth l 0 1)) (fun _=>rfl) p
theorem OV:Ae Tryz.prog 79 yJ:=by
 refine Ar Ah (GOk.cons zB7 (AA Tryz.func130 rfl rfl) GOk.nil) mixed Tryz.func79 rfl Tryz.ntmps79 Tryz.results79 5 ?_;rintro p ⟨hn,d,g⟩;replace hn:p.n<=1000000:=hn;replace d:p.hn<=1000000:=d;refine⟨by simp,?_⟩;simp[go_sem,GW,TE];refine⟨by omega,?_⟩;refine Ax (fun k:Nat=>⟨[(4,true,.i k),(3,true,.m false [.p 3 0]),(2,true,.m false [.p 2 0]),(1,true,.m false [.p 1 0])],[(3,.var [.h 7,.h 8]),(7,.row 3 k (Ao .z p.s)),(8,.row 1 p.hn (Ay p.h)),(2,.var [.v n0,.v n0]),(1,.var [.s .b 3 p.n (Ao .b p.s),.s .b 1 p.hn (Ay p.h)])]⟩) (fun k=>p.n - k) (fun k=>k<=p.n) 0 ?_ (by simp) ?_
 ·simp[go_sem];exact TrE.refl (.s .o 1 p.hn (Ay p.h))
 rintro k l;simp[go_sem,Al (show k<=1000000000 by omega),zFu];refine⟨fun c=>?_,fun c=>?_⟩
 ·have a:=g k c;refine⟨c,a,by omega,by kernel_rfl,k+1,by omega,by omega,by omega,zGa fun j e=>?_⟩
  match j,e with
  | 0,_=>rfl
  | 1,_=>rfl
  | 2,_=>rfl
 ·cases (show k=p.n by omega);exact⟨⟨TrE.refl _,BT⟩,BX⟩
def GM(x:Int):Nat:=if 0<=x/\x<=200 then x.toNat else 0
def yW:AE:=AU (fun x:Int=>[iT x]) (fun _=>True) (fun x=>[poO (DW (GM x))])
theorem zFn(x:Int):yW [iT x]=some (True,[poO (DW (GM x))]):=Ac (fun l=>AQ (nth l 0 0)) (fun _=>rfl) x
theorem zBB:Ae Tryz.prog 132 yW:=by
 refine Ar Ah GOk.nil mixed Tryz.func132 rfl Tryz.ntmps132 Tryz.results132 5 ?_;rintro x -;refine⟨by simp,?_⟩;simp[go_sem];refine Ax (fun k:Nat=>⟨[(4,true,.i k),(0,true,.i x),(3,true,.m false [.p 3 0]),(2,true,.m false [.p 2 0])],[(3,.var [.h 7,.v n0]),(7,.row 3 k (Ao .z fun _=>Ef)),(2,.var [.v n0,.v n0])]⟩) (fun k=>200 - k) (fun k=>k<=GM x) 0 (by simp[go_sem]) (by simp) ?_;rintro k o;have q:GM x<=200:=by unfold GM;split<;>omega
 have l:IntKind.i64.wrap ((k:Int)+1)=(k+1:Nat):=by simpa using Al (show k<=1000000000 by omega)
 simp[go_sem,DW];refine⟨fun n d=>?_,fun h=>?_⟩
 ·have c:GM x=x.toNat:=if_pos ⟨by omega,d⟩;refine⟨by omega,k+1,by omega,by omega,l,?_⟩;refine⟨.inl rfl,rfl,rfl,fun i j hi g=>?_⟩;unfold Ai;by_cases b:i<k
  ·rw[if_pos b];exact TrE.refl _
  ·cases (show i=k by omega);rw[if_neg b,Nat.sub_self]
   match j,g with
   | 0,_=>rfl
   | 1,_=>exact⟨rfl,rfl⟩
   | 2,_=>rfl
 ·have c:k=GM x:=by
   by_cases a:0<=x/\x<=200
   ·have e:GM x=x.toNat:=if_pos a;omega
   ·have e:GM x=0:=if_neg a;omega
  rw[c];exact⟨TrE.refl _,BT⟩
end
end Go.Proofs.YtibhefllijahkaaGreatDoor
