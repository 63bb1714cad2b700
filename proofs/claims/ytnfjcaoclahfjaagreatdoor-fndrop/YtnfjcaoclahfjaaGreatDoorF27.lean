/- A part of the proof. -/
import Derived.Test.YtnfjcaoclahfjaaGreatDoorRows
import Derived.Test.YtnfjcaoclahfjaaGreatDoorF20
import Derived.ChangeSame
import Derived.ChangeVars
import Derived.JoinedOf
import Derived.LaidLaws
import Derived.Stop.LaidTwo
import Derived.Stop.Joined
import Derived.Stop.ErrReads
import Derived.MakeChecks
import Derived.OpenShut
import Derived.ChangeOld
set_option linter.unusedVariables false
set_option maxRecDepth 20000
set_option maxHeartbeats 4000000
namespace Go.Proofs.YtnfjcaoclahfjaaGreatDoor
noncomputable section
open Go.ChangeShapes Go.WideShapes Go.RowKit
set_option maxRecDepth 100000
abbrev LA:List (String×DataW Unit):=[("loop.example/g00381/impl.errForm",Rows.laid_loop_example_g00381_impl_errForm),("loop.example/g00381/impl.errSize",Rows.laid_loop_example_g00381_impl_errSize),("loop.example/g00381/impl.errNone",Rows.laid_loop_example_g00381_impl_errNone),("loop.example/g00381/impl.errThere",Rows.laid_loop_example_g00381_impl_errThere),("loop.example/g00381/impl.errFull",Rows.laid_loop_example_g00381_impl_errFull),("loop.example/g00381/impl.errState",Rows.laid_loop_example_g00381_impl_errState),("loop.example/g00381/impl.errRange",Rows.laid_loop_example_g00381_impl_errRange)]
def errN:Nat->String
 | 0=> "loop.example/g00381/impl.errForm"
 | 1=> "loop.example/g00381/impl.errSize"
 | 2=> "loop.example/g00381/impl.errNone"
 | 3=> "loop.example/g00381/impl.errThere"
 | 4=> "loop.example/g00381/impl.errFull"
 | 5=> "loop.example/g00381/impl.errState"
 | _=> "loop.example/g00381/impl.errRange"
theorem ED(i:Nat)(h:i<7):Tryz.prog.globalNamed (errN i)=some (Ee i)/\(Tryz.prog.globals[Ee i]?).map (·.type)=some 52:=by
 match i,h with
 | 0,_=>exact⟨by kernel_rfl,by kernel_rfl⟩
 | 1,_=>exact⟨by kernel_rfl,by kernel_rfl⟩
 | 2,_=>exact⟨by kernel_rfl,by kernel_rfl⟩
 | 3,_=>exact⟨by kernel_rfl,by kernel_rfl⟩
 | 4,_=>exact⟨by kernel_rfl,by kernel_rfl⟩
 | 5,_=>exact⟨by kernel_rfl,by kernel_rfl⟩
 | 6,_=>exact⟨by kernel_rfl,by kernel_rfl⟩
theorem TH : "*" ++ "errors.errorString" = "*errors.errorString" :=by decide
theorem JP(u:TypeId)(h:Tryz.prog.typeName? 3 u=some "*errors.errorString"):u=229:=
 typeName_ptr_named (nm:= "errors.errorString") (by rw[TH];kernel_rfl) (by kernel_rfl) (by decide) u (by rw[TH];exact h)
theorem Jd:Tryz.prog.cellsOf 255=1:=by kernel_rfl
theorem Jb:Tryz.prog.cellsOf 9=1:=by kernel_rfl
theorem zC9{W:World}(h:laidMetH Tryz.prog LA W):∃p:Nat->Addr,Do W p/\∀i,i<7->W.var? Tryz.prog (errN i)=some #[Aq (p i)]:=by
 rw[MakeChecks.laidMetH_plain _ _ _ (by kernel_rfl)]at h;obtain⟨ps,⟨g0,t0,G,f0,p0,q0,q,U,z,N,⟨g1,t1,H,f1,p1,q1,r,V,A,O,⟨g2,t2,I,f2,p2,q2,s,X,B,P,⟨g3,t3,J,f3,p3,q3,t,Y,C,Q,⟨g4,t4,K,f4,p4,q4,w,Z,D,R,⟨g5,t5,L,f5,p5,q5,x,aA,E,S,⟨g6,t6,M,f6,p6,q6,y,bA,F,T,_,e6⟩,e5⟩,e4⟩,e3⟩,e2⟩,e1⟩,e0⟩,a,b⟩:=h;obtain rfl:=Option.some.inj ((ED 0 (by omega)).1.symm.trans q);obtain rfl:=Option.some.inj ((ED 0 (by omega)).2.symm.trans U);obtain rfl:=Option.some.inj ((ED 1 (by omega)).1.symm.trans r);obtain rfl:=Option.some.inj ((ED 1 (by omega)).2.symm.trans V);obtain rfl:=Option.some.inj ((ED 2 (by omega)).1.symm.trans s);obtain rfl:=Option.some.inj ((ED 2 (by omega)).2.symm.trans X);obtain rfl:=Option.some.inj ((ED 3 (by omega)).1.symm.trans t);obtain rfl:=Option.some.inj ((ED 3 (by omega)).2.symm.trans Y);obtain rfl:=Option.some.inj ((ED 4 (by omega)).1.symm.trans w);obtain rfl:=Option.some.inj ((ED 4 (by omega)).2.symm.trans Z);obtain rfl:=Option.some.inj ((ED 5 (by omega)).1.symm.trans x);obtain rfl:=Option.some.inj ((ED 5 (by omega)).2.symm.trans aA);obtain rfl:=Option.some.inj ((ED 6 (by omega)).1.symm.trans y);obtain rfl:=Option.some.inj ((ED 6 (by omega)).2.symm.trans bA);subst e6;subst e5;subst e4;subst e3;subst e2;subst e1;subst e0;obtain⟨l0⟩:=G;have cA:∀u v,l0 = [.iface u v]->Value.okWide Tryz.prog W .any 0 u v:=fun u v e=>by
  subst e;exact(b (Ee 0) 0 (by simp[MemPlace.row])).2 u v (by simpa using World.var?_cell q z 0)
 obtain⟨d,s0,rfl,rA,fB,nB,rfl⟩:=errorString_of_trod Tryz.underlying52 JP Tryz.underlying229 Tryz.underlying255 rfl rfl Tryz.underlying9 Jd Jb N cA;obtain⟨l1⟩:=H;have dA:∀u v,l1 = [.iface u v]->Value.okWide Tryz.prog W .any 0 u v:=fun u v e=>by
  subst e;exact(b (Ee 1) 0 (by simp[MemPlace.row])).2 u v (by simpa using World.var?_cell r A 0)
 obtain⟨f,s1,rfl,sA,gB,oB,rfl⟩:=errorString_of_trod Tryz.underlying52 JP Tryz.underlying229 Tryz.underlying255 rfl rfl Tryz.underlying9 Jd Jb O dA;obtain⟨l2⟩:=I;have eA:∀u v,l2 = [.iface u v]->Value.okWide Tryz.prog W .any 0 u v:=fun u v e=>by
  subst e;exact(b (Ee 2) 0 (by simp[MemPlace.row])).2 u v (by simpa using World.var?_cell s B 0)
 obtain⟨g,s2,rfl,tA,iB,pB,rfl⟩:=errorString_of_trod Tryz.underlying52 JP Tryz.underlying229 Tryz.underlying255 rfl rfl Tryz.underlying9 Jd Jb P eA;obtain⟨l3⟩:=J;have fA:∀u v,l3 = [.iface u v]->Value.okWide Tryz.prog W .any 0 u v:=fun u v e=>by
  subst e;exact(b (Ee 3) 0 (by simp[MemPlace.row])).2 u v (by simpa using World.var?_cell t C 0)
 obtain⟨k,s3,rfl,vA,jB,rB,rfl⟩:=errorString_of_trod Tryz.underlying52 JP Tryz.underlying229 Tryz.underlying255 rfl rfl Tryz.underlying9 Jd Jb Q fA;obtain⟨l4⟩:=K;have gA:∀u v,l4 = [.iface u v]->Value.okWide Tryz.prog W .any 0 u v:=fun u v e=>by
  subst e;exact(b (Ee 4) 0 (by simp[MemPlace.row])).2 u v (by simpa using World.var?_cell w D 0)
 obtain⟨l,s4,rfl,aB,kB,sB,rfl⟩:=errorString_of_trod Tryz.underlying52 JP Tryz.underlying229 Tryz.underlying255 rfl rfl Tryz.underlying9 Jd Jb R gA;obtain⟨l5⟩:=L;have iA:∀u v,l5 = [.iface u v]->Value.okWide Tryz.prog W .any 0 u v:=fun u v e=>by
  subst e;exact(b (Ee 5) 0 (by simp[MemPlace.row])).2 u v (by simpa using World.var?_cell x E 0)
 obtain⟨m,s5,rfl,bB,lB,tB,rfl⟩:=errorString_of_trod Tryz.underlying52 JP Tryz.underlying229 Tryz.underlying255 rfl rfl Tryz.underlying9 Jd Jb S iA;obtain⟨l6⟩:=M;have jA:∀u v,l6 = [.iface u v]->Value.okWide Tryz.prog W .any 0 u v:=fun u v e=>by
  subst e;exact(b (Ee 6) 0 (by simp[MemPlace.row])).2 u v (by simpa using World.var?_cell y F 0)
 obtain⟨n,s6,rfl,cB,mB,vB,rfl⟩:=errorString_of_trod Tryz.underlying52 JP Tryz.underlying229 Tryz.underlying255 rfl rfl Tryz.underlying9 Jd Jb T jA;refine⟨fun | 0=>d | 1=>f | 2=>g | 3=>k | 4=>l | 5=>m | _=>n,⟨fun i hi=>?_,fun i hi=>?_,fun i j hi hj o c=>?_⟩,fun i hi=>?_⟩
 ·match i,hi with
  | 0,_=>simpa using World.var?_cell q z 0
  | 1,_=>simpa using World.var?_cell r A 0
  | 2,_=>simpa using World.var?_cell s B 0
  | 3,_=>simpa using World.var?_cell t C 0
  | 4,_=>simpa using World.var?_cell w D 0
  | 5,_=>simpa using World.var?_cell x E 0
  | 6,_=>simpa using World.var?_cell y F 0
 ·match i,hi with
  | 0,_=>exact(b d.block d.off (by simp[MemPlace.row])).1
  | 1,_=>exact(b f.block f.off (by simp[MemPlace.row])).1
  | 2,_=>exact(b g.block g.off (by simp[MemPlace.row])).1
  | 3,_=>exact(b k.block k.off (by simp[MemPlace.row])).1
  | 4,_=>exact(b l.block l.off (by simp[MemPlace.row])).1
  | 5,_=>exact(b m.block m.off (by simp[MemPlace.row])).1
  | 6,_=>exact(b n.block n.off (by simp[MemPlace.row])).1
 ·simp only[MemPlace.row]at a
  match i,hi,j,hj with
  | 0,_,0,_=>exact absurd rfl o
  | 0,_,1,_=>obtain rfl:d=f:=c;simp at a
  | 0,_,2,_=>obtain rfl:d=g:=c;simp at a
  | 0,_,3,_=>obtain rfl:d=k:=c;simp at a
  | 0,_,4,_=>obtain rfl:d=l:=c;simp at a
  | 0,_,5,_=>obtain rfl:d=m:=c;simp at a
  | 0,_,6,_=>obtain rfl:d=n:=c;simp at a
  | 1,_,0,_=>obtain rfl:f=d:=c;simp at a
  | 1,_,1,_=>exact absurd rfl o
  | 1,_,2,_=>obtain rfl:f=g:=c;simp at a
  | 1,_,3,_=>obtain rfl:f=k:=c;simp at a
  | 1,_,4,_=>obtain rfl:f=l:=c;simp at a
  | 1,_,5,_=>obtain rfl:f=m:=c;simp at a
  | 1,_,6,_=>obtain rfl:f=n:=c;simp at a
  | 2,_,0,_=>obtain rfl:g=d:=c;simp at a
  | 2,_,1,_=>obtain rfl:g=f:=c;simp at a
  | 2,_,2,_=>exact absurd rfl o
  | 2,_,3,_=>obtain rfl:g=k:=c;simp at a
  | 2,_,4,_=>obtain rfl:g=l:=c;simp at a
  | 2,_,5,_=>obtain rfl:g=m:=c;simp at a
  | 2,_,6,_=>obtain rfl:g=n:=c;simp at a
  | 3,_,0,_=>obtain rfl:k=d:=c;simp at a
  | 3,_,1,_=>obtain rfl:k=f:=c;simp at a
  | 3,_,2,_=>obtain rfl:k=g:=c;simp at a
  | 3,_,3,_=>exact absurd rfl o
  | 3,_,4,_=>obtain rfl:k=l:=c;simp at a
  | 3,_,5,_=>obtain rfl:k=m:=c;simp at a
  | 3,_,6,_=>obtain rfl:k=n:=c;simp at a
  | 4,_,0,_=>obtain rfl:l=d:=c;simp at a
  | 4,_,1,_=>obtain rfl:l=f:=c;simp at a
  | 4,_,2,_=>obtain rfl:l=g:=c;simp at a
  | 4,_,3,_=>obtain rfl:l=k:=c;simp at a
  | 4,_,4,_=>exact absurd rfl o
  | 4,_,5,_=>obtain rfl:l=m:=c;simp at a
  | 4,_,6,_=>obtain rfl:l=n:=c;simp at a
  | 5,_,0,_=>obtain rfl:m=d:=c;simp at a
  | 5,_,1,_=>obtain rfl:m=f:=c;simp at a
  | 5,_,2,_=>obtain rfl:m=g:=c;simp at a
  | 5,_,3,_=>obtain rfl:m=k:=c;simp at a
  | 5,_,4,_=>obtain rfl:m=l:=c;simp at a
  | 5,_,5,_=>exact absurd rfl o
  | 5,_,6,_=>obtain rfl:m=n:=c;simp at a
  | 6,_,0,_=>obtain rfl:n=d:=c;simp at a
  | 6,_,1,_=>obtain rfl:n=f:=c;simp at a
  | 6,_,2,_=>obtain rfl:n=g:=c;simp at a
  | 6,_,3,_=>obtain rfl:n=k:=c;simp at a
  | 6,_,4,_=>obtain rfl:n=l:=c;simp at a
  | 6,_,5,_=>obtain rfl:n=m:=c;simp at a
  | 6,_,6,_=>exact absurd rfl o
 ·match i,hi with
  | 0,_=>exact z
  | 1,_=>exact A
  | 2,_=>exact B
  | 3,_=>exact C
  | 4,_=>exact D
  | 5,_=>exact E
  | 6,_=>exact F
theorem Qq{H:Type}(enc:TypeId×Value->H){W:World}{p:Nat->Addr}(h:∀i,i<7->W.var? Tryz.prog (errN i)=some #[Aq (p i)])(sp:Nat->Bool):∀l:List Nat,(∀i,i∈l->i<7)->
 DataW.TrodVars enc Tryz.prog W sp (l.map errN) (l.map fun i=>tok enc (Aq (p i))) (l.map fun i=>.cell (Ee i) 0)
 | [],_=>rfl
 | i :: l,hl=>⟨Ee i,52,#[Aq (p i)],1,[],l.map fun i=>.cell (Ee i) 0,(ED i (hl i (List.mem_cons_self ..))).1,(ED i (hl i (List.mem_cons_self ..))).2,h i (hl i (List.mem_cons_self ..)),trod_held Tryz.underlying52 (show IsIface (Aq (p i))from trivial) 0,Qq enc h sp l fun j a=>hl j (List.mem_cons_of_mem _ a),rfl⟩
theorem zf{W W':World}{n:String}{cs:Array Value}(h:W.var? Tryz.prog n=some cs)(t:Below W.heap.size W W'):W'.var? Tryz.prog n=some cs:=by
 unfold World.var? at h ⊢;cases hg:Tryz.prog.globalNamed n with
 | none=>simp[hg]at h
 | some g=>
  simp only[hg,Option.bind_some]at h ⊢;have b:g<W.heap.size:=by
   rcases Nat.lt_or_ge g W.heap.size with a | a
   ·exact a
   ·simp[Array.getElem?_eq_none a]at h
  rw[t.block g b];exact h
def Ec:Nat:=(World.holding Tryz.prog default ⟨#[],#[],[]⟩).heap.size
def VR(os:Os):World:=
 let w0:=World.holding Tryz.prog os ⟨#[.cells #[.string ⟨#[105,116,32,105,115,32,110,111,116,32,114,105,103,104,116]⟩] 255,.cells #[.string ⟨#[105,116,32,105,115,32,116,111,111,32,108,111,110,103]⟩] 255,.cells #[.string ⟨#[116,104,101,114,101,32,105,115,32,110,111,110,101]⟩] 255,.cells #[.string ⟨#[116,104,101,114,101,32,105,115,32,111,110,101,32,97,108,114,101,97,100,121]⟩] 255,.cells #[.string ⟨#[116,104,101,114,101,32,105,115,32,110,111,32,114,111,111,109]⟩] 255,.cells #[.string ⟨#[105,116,32,100,111,101,115,32,110,111,116,32,115,116,97,110,100,32,115,111,32,116,104,97,116,32,116,104,105,115,32,99,97,110,32,98,101,32,100,111,110,101]⟩] 255,.cells #[.string ⟨#[105,116,32,105,115,32,111,117,116,32,111,102,32,114,97,110,103,101]⟩] 255],#[],[]⟩
 {w0 with heap:=((((((((((((((w0.heap).modify 3 fun
   | .cells _ t frozen=>.cells #[Aq ⟨Ec+0,0,none⟩] t frozen
   | o=>o)).modify 2 fun
   | .cells _ t frozen=>.cells #[Aq ⟨Ec+1,0,none⟩] t frozen
   | o=>o)).modify 0 fun
   | .cells _ t frozen=>.cells #[Aq ⟨Ec+2,0,none⟩] t frozen
   | o=>o)).modify 4 fun
   | .cells _ t frozen=>.cells #[Aq ⟨Ec+3,0,none⟩] t frozen
   | o=>o)).modify 5 fun
   | .cells _ t frozen=>.cells #[Aq ⟨Ec+4,0,none⟩] t frozen
   | o=>o)).modify 1 fun
   | .cells _ t frozen=>.cells #[Aq ⟨Ec+5,0,none⟩] t frozen
   | o=>o)).modify 6 fun
   | .cells _ t frozen=>.cells #[Aq ⟨Ec+6,0,none⟩] t frozen
   | o=>o)}
theorem zCd(os:Os)(args:Array Value):laidMetH Tryz.prog LA ((VR os).forCall (fun _ _=>0) ⟨#[],args,[]⟩).memory:=by
 rw[MakeChecks.laidMetH_plain _ _ _ (by kernel_rfl)];exact laidMet_of_run (ps:=[.cell 3 0,.cell (Ec+0) 0,.cell 2 0,.cell (Ec+1) 0,.cell 0 0,.cell (Ec+2) 0,.cell 4 0,.cell (Ec+3) 0,.cell 5 0,.cell (Ec+4) 0,.cell 1 0,.cell (Ec+5) 0,.cell 6 0,.cell (Ec+6) 0]) 8 (by kernel_rfl) (by kernel_rfl) (by kernel_rfl)
set_option linter.unusedSimpArgs false
open Classical in
def AR{ι : Type}(A:ι->List (Bool×List Tr))(C:ι->Prop)(R:ι->List (Bool×List Tr)):AH:=fun l=>
 if h:∃x,A x=l then some (C h.choose,R h.choose)else none
variable{ι:Type}
theorem Aa{A:ι->List (Bool×List Tr)}{C:ι->Prop}{R:ι->List (Bool×List Tr)}(a:List (Bool×List Tr)->ι)(b:∀x,a (A x)=x)(x:ι):AR A C R (A x)=some (C x,R x):=by
 unfold AR;have h:∃y,A y=A x:=⟨x,rfl⟩;rw[dif_pos h];have:h.choose=x:=by
  have:=congrArg a h.choose_spec
  rwa [b,b]at this
 rw[this]
def K4(T:Tb)(rv:List ResultVar)(rs:List (Bool×List Tr)):Exit->St->Prop:=fun e S=>match e with
 | .ret=>Ret T rv S rs
 | .normal=>Ret T rv S rs
 | _=>False
variable{P:Program}{f N:Nat}{T:Tb}{Γ:List (Nat×AH)}{fn:Func}{body:Code}{rv:Array ResultVar}
theorem Au{A:ι->List (Bool×List Tr)}{C:ι->Prop}{R:ι->List (Bool×List Tr)}(g:D9 P T)(hΓ : GOk P Γ)(m:P.follows .mixedOrders=true)(k:P.funcs[f]?=some fn)(i:fn.body=some body)(e:fn.ntmps=N)(b:fn.results=rv)(n:Nat)
 (h:∀x,C x->(A x).length<=N/\ev N T Γ n body ⟨Dh 0 (A x),[]⟩ (K4 T rv.toList (R x))):Ag P f (AR A C R):=by
 refine zB9 g hΓ m k i e b n (fun l c rs a j=>?_);unfold AR at a;split at a
 ·rename_i d
  cases a;have:=h d.choose j;rw[d.choose_spec]at this;exact this
 ·cases a
def LI(T:Tb)(rv:List ResultVar)(rs:List (Bool×List Tr)):Exit->St->Prop:=fun e S=>match e with
 | .ret=>RetP T rv S rs
 | .normal=>RetP T rv S rs
 | _=>False
theorem EZ{V:ι->List Tr}{A:ι->List (Bool×List Tr)}{C:ι->Prop}{R:ι->List (Bool×List Tr)}(g:D9 P T)(hΓ : GOk P Γ)(o:P.follows .mixedOrders=true)(k:P.funcs[f]?=some fn)(i:fn.body=some body)(d:fn.ntmps=N)(b:fn.results=rv)(n:Nat)
 (h:∀x,C x->1+(A x).length<=N/\ev N T Γ n body ⟨(0,true,.m false [.p 0 0]) :: Dh 1 (A x),Ft (V x)⟩ (LI T rv.toList (R x))):Ck P f (AR (fun x=>(true,V x) :: A x) C R):=by
 refine zC0 g hΓ o k i d b n (fun vs l c rs a j=>?_);obtain⟨y,e,r,rfl⟩:∃y,(true,V y) :: A y=(true,vs) :: l/\C y/\R y=rs:=by
  unfold AR at a;split at a
  ·rename_i q
   cases a;exact⟨_,q.choose_spec,j,rfl⟩
  ·cases a
 simp only[List.cons.injEq,Prod.mk.injEq,true_and]at e;obtain⟨rfl,rfl⟩:=e;exact h y r
theorem zDr{V:ι->List Tr}{A:ι->List (Bool×List Tr)}{C:ι->Prop}{R:ι->List (Bool×List Tr)}(j:D9 P T)(hΓ : GOk P Γ)(q:P.follows .mixedOrders=true)(p:P.funcs[f]?=some fn)(k:fn.body=some body)(i:fn.ntmps=N)(b:fn.results=rv)(n:Nat)
 (h:∀x,C x->(A x).length+1<=N/\ev N T Γ n body ⟨((A x).length,true,.m true (Cl 0 0 (V x))) :: Dh 0 (A x),DD 0 (V x)⟩ (K4 T rv.toList (R x))):NG P f (AR (fun x=>A x ++ [(true,V x)]) C R):=by
 refine zBz j hΓ q p k i b n (fun vs l c rs a o=>?_);obtain⟨y,e,s,rfl⟩:∃y,A y ++ [(true,V y)]=l ++ [(true,vs)]/\C y/\R y=rs:=by
  unfold AR at a;split at a
  ·rename_i r
   cases a;exact⟨_,r.choose_spec,o,rfl⟩
  ·cases a
 obtain⟨d,g⟩:=List.append_inj' e rfl;subst d;cases g;exact h y s
def Ri(T:Tb)(rv:List ResultVar)(rs:List (Bool×List Tr)):Exit->St->Prop:=fun e S=>match e with
 | .ret=>RetN T rv S rs
 | .normal=>RetN T rv S rs
 | _=>False
theorem zDq{A:ι->List (Bool×List Tr)}{C:ι->Prop}{R:ι->List (Bool×List Tr)}(g:D9 P T)(hΓ : GOk P Γ)(m:P.follows .mixedOrders=true)(k:P.funcs[f]?=some fn)(i:fn.body=some body)(e:fn.ntmps=N)(b:fn.results=rv)(n:Nat)
 (h:∀x,C x->(A x).length<=N/\ev N T Γ n body ⟨Dh 0 (A x),[]⟩ (Ri T rv.toList (R x))):NF P f (AR A C R):=by
 refine zBy g hΓ m k i e b n (fun l c rs a j=>?_);unfold AR at a;split at a
 ·rename_i d
  cases a;have:=h d.choose j;rw[d.choose_spec]at this;exact this
 ·cases a
def B5(h:Nat->Int):Nat->Nat->Tr:=fun i _=>.v (.int .i64 (h i))
def AO:Tr->Int
 | .v (.int _ x)=>x
 | _=>0
def DI:Tr->Nat
 | .s _ _ n _=>n
 | _=>0
def Bk:Tr->Nat->Nat->Tr
 | .s _ _ _ f=>f
 | _=>fun _ _=>.v (.bool false)
def nth(l:List (Bool×List Tr))(i j:Nat):Tr:=((l.getD i (false,[])).2).getD j (.v (.bool false))
def dB(p:Prop):Bool:=@decide p (Classical.propDecidable p)
variable{p:Prop}
theorem Ew:dB p=true↔p:=@decide_eq_true_iff p (Classical.propDecidable p)
theorem P2:dB p=false↔¬p:=@decide_eq_false_iff_not p (Classical.propDecidable p)
theorem zHs{b:Bool}:(b=dB p)↔(b=true↔p):=by
 rw[Bool.eq_iff_iff,Ew]
theorem Aj{k:Nat}(h:k<=1000000000):IntKind.i64.wrap ((k:Int)+1)=((k+1:Nat):Int):=by
 rw[IntKind.wrap_i64];omega
abbrev Av.i(x:Int):Av:=.m false [.v (.int .i64 x)]
section
variable {N : Nat} {T : Tb} {Γ : List (Nat × AH)} {n : Nat} {tm : List (Nat × Bool × Av)} {ob : List (Nat × Ob)} {K : Exit -> St -> Prop} {ops : Array Oper} {dst : Option Nat}
def Ksq(N:Nat)(T:Tb)(Γ : List (Nat×AH))(n:Nat)(b:Code)(K:Exit->St->Prop):Exit->St->Prop:=fun e S=>match e with
 | .normal=>ev N T Γ n b S K
 | e=>K e S
def Kbl(id:Nat)(K:Exit->St->Prop):Exit->St->Prop:=fun e S=>match e with
 | .exit i=>if i=id then K .normal S else K (.exit i) S
 | e=>K e S
def bnd:Option (Prop×St)->(St->Prop)->Prop
 | some q,f=>q.1/\f q.2
 | none,_=>False
variable{a b:Code}
theorem zHS:ev N T Γ n (.seq a b) ⟨tm,ob⟩ K=ev N T Γ n a ⟨tm,ob⟩ (Ksq N T Γ n b K):=rfl
variable{id:Nat}
theorem zEH:ev N T Γ n (.block id a) ⟨tm,ob⟩ K=ev N T Γ n a ⟨tm,ob⟩ (Kbl id K):=rfl
theorem zGX:ev N T Γ n .skip ⟨tm,ob⟩ K=K .normal ⟨tm,ob⟩:=rfl
theorem zGW:ev N T Γ n (.exit id) ⟨tm,ob⟩ K=K (.exit id) ⟨tm,ob⟩:=rfl
theorem zHR:ev N T Γ n .ret ⟨tm,ob⟩ K=K .ret ⟨tm,ob⟩:=rfl
theorem zHQ:ev N T Γ n (.region id ops false) ⟨tm,ob⟩ K=runL N T Γ ops ops.toList ⟨fgt n tm,ob⟩ (K .normal):=rfl
theorem zHn:ev N T Γ n (.region id ops true) ⟨tm,ob⟩ K=runT N T Γ ops ops.toList ⟨fgt n tm,ob⟩ [] (fun S ts=>chk ops.toList ts=true/\K .normal S):=rfl
theorem zGV{c:Operand}:ev N T Γ n (.cond c a b) ⟨tm,ob⟩ K=match opd ⟨tm,ob⟩ c with
 | some (cc,.m false [.v (.bool t)])=>cc=true/\(t=true->ev N T Γ n a ⟨tm,ob⟩ K)/\(t=false->ev N T Γ n b ⟨tm,ob⟩ K)
 | _=>False:=rfl
variable{rv:List ResultVar}{rs:List (Bool×List Tr)}
theorem zHa:K4 T rv rs .ret ⟨tm,ob⟩=Ret T rv ⟨tm,ob⟩ rs:=rfl
theorem zHZ:K4 T rv rs .normal ⟨tm,ob⟩=Ret T rv ⟨tm,ob⟩ rs:=rfl
theorem zIr:tb.ty=tyT:=rfl
theorem zIk:tb.bt=4:=rfl
theorem zIo:tb.pt=40:=rfl
theorem zIp:tb.sx=9:=rfl
theorem zIq:tb.tk=41:=rfl
theorem zIn:tb.mv=27:=rfl
theorem zIl:tb.by'=22:=rfl
theorem zIm:tb.ik=ikT:=rfl
theorem zG7:LI T rv rs .ret ⟨tm,ob⟩=RetP T rv ⟨tm,ob⟩ rs:=rfl
theorem zG6:LI T rv rs .normal ⟨tm,ob⟩=RetP T rv ⟨tm,ob⟩ rs:=rfl
theorem zG5:Ri T rv rs .ret ⟨tm,ob⟩=RetN T rv ⟨tm,ob⟩ rs:=rfl
theorem zFF:Ri T rv rs .normal ⟨tm,ob⟩=RetN T rv ⟨tm,ob⟩ rs:=rfl
def Kl{α : Type}(I:α->St)(μ : α->Nat)(J:α->Prop)(a:α)(K:Exit->St->Prop):Exit->St->Prop:=fun e S'=>match e with
 | .normal=>∃a',J a'/\μ a' < μ a/\StW S' (I a')
 | e=>K e S'
variable{α:Type}
theorem zIx{I:α->St}{μ : α->Nat}{J:α->Prop}{a:α}:Kl I μ J a K .normal ⟨tm,ob⟩ = ∃b,J b/\μ b < μ a/\StW ⟨tm,ob⟩ (I b):=rfl
variable{S:St}
theorem zIz{I:α->St}{μ : α->Nat}{J:α->Prop}{a:α}{i:Nat}:Kl I μ J a K (.exit i) S=K (.exit i) S:=rfl
theorem zIy{I:α->St}{μ : α->Nat}{J:α->Prop}{a:α}:Kl I μ J a K .ret S=K .ret S:=rfl
theorem B2(I:α->St)(μ : α->Nat)(J:α->Prop)(d:α){c:Code}(o:StW S (I d))(l:J d)(h:∀a,J a->ev N T Γ n c (I a) (Kl I μ J a K)):ev N T Γ n (.loop c) S K:=by
 refine⟨fun m S=>∃a,J a/\μ a=m/\S=I a,μ d,I d,o,⟨d,l,rfl,rfl⟩,?_⟩;rintro m S ⟨a,k,rfl,rfl⟩;refine cast (congrArg (ev N T Γ n c (I a)) ?_) (h a k);funext e S';cases e<;>first | rfl | skip
 refine propext ⟨fun ⟨b,f,g,i⟩=>⟨μ b,I b,i,g,b,f,rfl,rfl⟩,?_⟩;rintro⟨p,j,f,g,b,i,rfl,rfl⟩;exact⟨b,i,g,f⟩
theorem zIU:Ksq N T Γ n b K .normal S=ev N T Γ n b S K:=rfl
theorem zIW{i:Nat}:Ksq N T Γ n b K (.exit i) S=K (.exit i) S:=rfl
theorem zIV:Ksq N T Γ n b K .ret S=K .ret S:=rfl
theorem zIQ:Kbl id K .normal S=K .normal S:=rfl
theorem zIS{i:Nat}:Kbl id K (.exit i) S=if i=id then K .normal S else K (.exit i) S:=rfl
theorem zIR:Kbl id K .ret S=K .ret S:=rfl
variable{f:St->Prop}
theorem zFP:runL N T Γ ops [] ⟨tm,ob⟩ f=f ⟨tm,ob⟩:=rfl
variable{r:List Oper}
theorem zDY{o:Oper}:runL N T Γ ops (o :: r) ⟨tm,ob⟩ f=bnd (stp N T Γ ops ⟨tm,ob⟩ o) (fun S=>runL N T Γ ops r S f):=by
 simp only[runL];cases stp N T Γ ops ⟨tm,ob⟩ o<;>rfl
variable{f:St->List Tc->Prop}
theorem zFQ{ts:List Tc}:runT N T Γ ops [] ⟨tm,ob⟩ ts f=f ⟨tm,ob⟩ ts:=rfl
theorem zDZ{o:Oper}{ts:List Tc}:runT N T Γ ops (o :: r) ⟨tm,ob⟩ ts f=bnd (stp N T Γ ops ⟨tm,ob⟩ o) (fun S=>runT N T Γ ops r S (ts ++ [tcAt T Γ ops ⟨tm,ob⟩ o]) f):=by
 simp only[runT];cases stp N T Γ ops ⟨tm,ob⟩ o<;>rfl
variable{f:St->Prop}
theorem zE6{q:Prop×St}:bnd (some q) f=(q.1/\f q.2):=rfl
theorem zE5:bnd none f=False:=rfl
variable{d:Option Nat}{t:Nat}{pos:String}{a:Array Edge}{g:Option (Nat×Bool)}
theorem zFs{x y z:Operand}:stp N T Γ ops ⟨tm,ob⟩ ⟨d,.pick x y z,t,pos,a,g⟩=stpP N (gtmp ops ⟨d,.pick x y z,t,pos,a,g⟩) ⟨tm,ob⟩ x y z d:=rfl
variable{op:Op}
theorem zIJ(h:∀x y z,op≠.pick x y z):stp N T Γ ops ⟨tm,ob⟩ ⟨d,op,t,pos,a,g⟩=stp0 N T Γ (gtmp ops ⟨d,op,t,pos,a,g⟩) ⟨tm,ob⟩ op d:=by
 unfold stp;split
 ·rename_i x y z e;exact absurd e (h x y z)
 ·rfl
def IK(N:Nat)(gt:Option (Option Nat×Bool))(κ : Bool)(l:List (Bool×Av))(tm:List (Nat×Bool×Av))(dst:Option Nat)(ob0:List (Nat×Ob)):Option Dl->Option (Prop×St)
 | some D=>match dst,D.av with
  | some d,some av=>if d<N then some (FY κ l/\(κ = true->D.c),⟨put tm d (κ,av),obK κ ob0 D⟩)else none
  | none,none=>if gt.isSome then none else some (FY κ l/\(κ = true->D.c),⟨tm,D.ob⟩)
  | _,_=>none
 | none=>match κ,dst with
  | false,some d=>if d<N then some (True,⟨put tm d (false,.m false [.v (.bool false)]),ob0⟩)else none
  | _,_=>none
def onK(f:Bool->List (Bool×Av)->Option (Prop×St)):Option Bool->Option (List (Bool×Av))->Option (Prop×St)
 | some κ,some l=>f κ l
 | _,_=>none
def Fc(N:Nat)(T:Tb)(Γ : List (Nat×AH))(gt:Option (Option Nat×Bool))(tm:List (Nat×Bool×Av))(ob:List (Nat×Ob))(op:Op)(dst:Option Nat)(κ : Bool)(l:List (Bool×Av)):Option (Prop×St):=IK N gt κ l tm dst ob (B1 T Γ dst ob op (l.map (·.2)))
variable{gt:Option (Option Nat×Bool)}
theorem zHG:stp0 N T Γ gt ⟨tm,ob⟩ op dst=onK (Fc N T Γ gt tm ob op dst) (kap ⟨tm,ob⟩ gt) (opds ⟨tm,ob⟩ op.operands.toList):=by
 unfold stp0;cases kap ⟨tm,ob⟩ gt with
 | none=>rfl
 | some κ=>
  cases opds ⟨tm,ob⟩ op.operands.toList with
  | none=>rfl
  | some l=>
   simp only[onK,Fc,IK];cases B1 T Γ dst ob op (l.map (·.2))<;>rfl
variable{κ:Bool}{l:List (Bool×Av)}
theorem zF6{f:Bool->List (Bool×Av)->Option (Prop×St)}:onK f (some κ) (some l)=f κ l:=rfl
theorem zIP:Fc N T Γ gt tm ob op dst κ l=IK N gt κ l tm dst ob (B1 T Γ dst ob op (l.map (·.2))):=rfl
variable{g:Option (Option Nat×Bool)}{a:List (Nat×Ob)}{d:Nat}{c:Prop}{av:Av}
theorem zHW{nw:Bool}:IK N g true l tm (some d) a (some ⟨c,some av,ob,nw⟩)=if d<N then some (FY true l/\(true=true->c),⟨put tm d (true,av),ob⟩)else none:=rfl
theorem zHU:IK N g κ l tm (some d) a (some ⟨c,some av,ob,false⟩)=if d<N then some (FY κ l/\(κ = true->c),⟨put tm d (κ,av),ob⟩)else none:=by cases κ<;>rfl
theorem zHT:IK N g false l tm (some d) a (some ⟨c,some av,ob,true⟩)=if d<N then some (FY false l/\(false=true->c),⟨put tm d (false,av),a⟩)else none:=rfl
theorem zHX:IK N g false l tm (some d) a none=if d<N then some (True,⟨put tm d (false,.m false [.v (.bool false)]),a⟩)else none:=rfl
theorem zHV{nw:Bool}:IK N none κ l tm none a (some ⟨c,none,ob,nw⟩)=some (FY κ l/\(κ = true->c),⟨tm,ob⟩):=rfl
variable{h:Nat->Int}
theorem zEV{i j:Nat}:B5 h i j = .v (.int .i64 (h i)):=rfl
variable{d:Option Nat}{a:Array Edge}
theorem yk:gtmp ops ⟨d,op,t,pos,a,none⟩=none:=rfl
theorem ym{j:Nat}{b:Bool}{os:List Oper}:gtmp os.toArray ⟨d,op,t,pos,a,some (j,b)⟩=some ((os[j]?).bind (·.dst),b):=by
 simp only[gtmp,List.getElem?_toArray];cases (os[j]?).bind (·.dst)<;>rfl
def onT(T:Tb)(Γ : List (Nat×AH))(ob:List (Nat×Ob))(op:Op)(d:Option Nat)(rd:List Nat):Option (List (Bool×Av))->Tc
 | some l=>⟨rd,d,tks T Γ ob op d (l.map (·.2))⟩
 | none=>tc0
theorem zHL{g:Option (Nat×Bool)}:tcAt T Γ ops ⟨tm,ob⟩ ⟨d,op,t,pos,a,g⟩=onT T Γ ob op d (tmpsOf op.operands.toList ++ LD (gtmp ops ⟨d,op,t,pos,a,g⟩)) (opds ⟨tm,ob⟩ op.operands.toList):=by
 unfold tcAt onT;cases opds ⟨tm,ob⟩ op.operands.toList<;>rfl
theorem zF7{rd:List Nat}:onT T Γ ob op d rd (some l)=⟨rd,d,tks T Γ ob op d (l.map (·.2))⟩:=rfl
theorem zEB:B1 T Γ dst ob op []=coreU T Γ dst ob op []:=rfl
theorem yV{x:Av}{l:List Av}:B1 T Γ dst ob op (x :: l)=coreU T Γ dst ob op (x :: l):=rfl
end
def ptrsT(ks kb:Nat->Int):Nat->Nat->Tr:=fun i c=>match c with
 | 0=>.v (.int .i64 (ks i))
 | 1=>.v (.int .i64 (kb i))
 | _=>.v (.bool false)
def Ao(fl:Fl)(s:Nat->AG):Nat->Nat->Tr:=fun i c=>match c with
 | 0=>.v (.int .i64 (s i).birth)
 | 1=>.s fl 2 (s i).kn (ptrsT (s i).ks (s i).kb)
 | _=>.v (.string (s i).data)
variable{ks kb:Nat->Int}
theorem zGt{i:Nat}:ptrsT ks kb i 0 = .v (.int .i64 (ks i)):=rfl
theorem zGu{i:Nat}:ptrsT ks kb i 1 = .v (.int .i64 (kb i)):=rfl
variable{fl:Fl}{s:Nat->AG}
theorem zFd{i:Nat}:Ao fl s i 0 = .v (.int .i64 (s i).birth):=rfl
theorem zFe{i:Nat}:Ao fl s i 1 = .s fl 2 (s i).kn (ptrsT (s i).ks (s i).kb):=rfl
theorem zFf{i:Nat}:Ao fl s i 2 = .v (.string (s i).data):=rfl
theorem zHw{x:Value}:(Tr.v x).lend = .v x:=rfl
variable{k n:Nat}{h:Nat->Int}
theorem zF:(Tr.s fl k n (B5 h)).lend = .s .b k n (B5 h):=rfl
variable{f g:Nat->Int}
theorem M6:(Tr.s fl k n (ptrsT f g)).lend = .s .b k n (ptrsT f g):=by
 simp only[Tr.lend];congr 1;funext i c
 match c with
 | 0=>rfl
 | 1=>rfl
 | c+2=>rfl
def Eb(f:Nat->Int)(a:Nat)(x:Int):Nat->Int:=fun i=>if i=a then x else f i
theorem TY{a:Nat}{x y:Int}:AZ (ptrsT f g) a 0 [.v (.int .i64 x),.v (.int .i64 y)]=ptrsT (Eb f a x) (Eb g a y):=by
 funext i c;by_cases h:i=a
 ·subst h
  match c with
  | 0=>simp[AZ,ptrsT,Eb]
  | 1=>simp[AZ,ptrsT,Eb]
  | c+2=>simp[AZ,ptrsT]
 ·match c with
  | 0=>simp[AZ,ptrsT,Eb,h]
  | 1=>simp[AZ,ptrsT,Eb,h]
  | c+2=>simp[AZ,ptrsT,h]
theorem zA8{fl':Fl}:(Tr.s fl k n (Ao fl' s)).lend = .s .b k n (Ao .b s):=by
 simp only[Tr.lend];congr 1;funext i c
 match c with
 | 0=>rfl
 | 1=>exact M6
 | c+2=>rfl
theorem AA{f:Nat}{b:Code}(h:Tryz.prog.funcs[f]?=some fn)(a:fn.body=some b)(hn:(fn.name == "runtime.NumGoroutine")=false):DO Tryz.prog f:=fun args w=>by
 simp only[beq_eq_false_iff_ne,ne_eq]at hn;simp[callFunc,h,a,hn]
def CL:Tr->ByteArray
 | .v (.string x)=>x
 | _=>⟨#[]⟩
abbrev iT(x:Int):Bool×List Tr:=(false,[.v (.int .i64 x)])
abbrev pT(a b:Int):Bool×List Tr:=(true,[.v (.int .i64 a),.v (.int .i64 b)])
abbrev slT(s:AG):Bool×List Tr:=(true,[.v (.int .i64 s.birth),.s .b 2 s.kn (ptrsT s.ks s.kb),.v (.string s.data)])
abbrev poT(n:Nat)(s:Nat->AG)(hn:Nat)(h:Nat->Int):Bool×List Tr:=(true,[.s .b 3 n (Ao .b s),.s .b 1 hn (B5 h)])
noncomputable abbrev bR (p:Prop):List (Bool×List Tr):=[(false,[.v (.bool (dB p))])]
def K6(a b c:Tr):AG:=⟨AO a,DI b,fun i=>AO (Bk b i 0),fun i=>AO (Bk b i 1),CL c⟩
def Cd(a b:Tr):A7:=⟨DI a,fun i=>K6 (Bk a i 0) (Bk a i 1) (Bk a i 2),DI b,fun i=>AO (Bk b i 0)⟩
attribute [go_sem] Dh List.map_cons List.map_nil Tr.cv zHS zEH zGX zGW zHR zHQ zHn zGV zIU zIW zIV zIQ zIS zIR zIx zIz zIy zFP zDY zFQ zDZ zE6 zE5 zFs zIJ yk ym zHL zF7 tmpsOf LD zHG zF6 zIP zHW zHU zHT zHX zHV stpP opds opd opdC kap FY zEB yV coreU bin Br P1 get put dlO fgt zIr zIk zIo zIp tyT zHa zHZ Op.operands Call.operands evLoad evLen evStore evAlloc K7 and_true true_and List.append_nil List.nil_append List.cons_append Ret resCv J6 LS cellM Ea MR Di StW StR hpT hpO hpV hpA hpL hpC sg nin SB bdO tmW obW AvE CsE CvE Av.tup Av.ids Cv.ids inD ObE Ob.ids TrE.refl zEV zGt zGu zFd zFe zFf zF M6 zA8 zHw Ew P2 zHs evCall argL argOf EQ outOb obO JK Cl cvO tot Tr.own rid partsOf fillC MH Ef frz frz1 evBuildSlice zc trs Cv.tr evSlice Option.toArray_none Option.toArray_some evMakeSlice evAppend dstOf srcOf Cx zIq zIn zIl zIm ikT zG7 zG6 zG5 zFF RetP RetN Ft DD evLd evSt evStoreH JJ evAppendM evAppendT tlOf mvOf rowE shp evTake oOf evC evCallP evCallN evCallO unlast C4 Cw IR argsF Ry CC pmC varT vT evField evConv dB0 Option.bind_some Option.bind_none Option.map_some Option.map_none Option.isSome_some Option.isSome_none
def mIs:AH:=AR (fun q:Int×Int×Int=>[iT q.1,iT q.2.1,iT q.2.2]) (fun _=>True) (fun q=>bR (q.2.1<=q.1/\q.1<=q.2.2))
theorem LL(x a b:Int):mIs [iT x,iT a,iT b]=some (True,bR (a<=x/\x<=b)):=Aa (fun l=>(AO (nth l 0 0),AO (nth l 1 0),AO (nth l 2 0))) (fun _=>rfl) (x,a,b)
theorem Ln:Ag Tryz.prog 84 mIs:=by
 refine Au Ai GOk.nil Ah Tryz.func84 rfl Tryz.ntmps84 Tryz.results84 7 ?_;rintro⟨x,a,b⟩ -;refine⟨by simp,?_⟩;simp[go_sem]
def Yt:AH:=AR (fun q:Int=>[iT q]) (fun _=>True) (fun q=>bR (DN q))
theorem Qw(x:Int):Yt [iT x]=some (True,bR (DN x)):=Aa (fun l=>AO (nth l 0 0)) (fun _=>rfl) x
theorem RQ:Ag Tryz.prog 153 Yt:=by
 refine Au Ai (GOk.cons Ln (AA Tryz.func84 rfl rfl) GOk.nil) Ah Tryz.func153 rfl Tryz.ntmps153 Tryz.results153 3 ?_;rintro x -;refine⟨by simp,?_⟩;simp[go_sem,LL,DN]
def qp:AH:=AR (fun q:Nat×(Nat->Int)×Int=>[(false,[.s .b 1 q.1 (B5 q.2.1)]),iT q.2.2]) (fun q=>q.1<=1000000) (fun q=>bR (Has q.1 q.2.1 q.2.2))
theorem KO(n:Nat)(h:Nat->Int)(x:Int):qp [(false,[.s .b 1 n (B5 h)]),iT x]=some (n<=1000000,bR (Has n h x)):=Aa (fun l=>(DI (nth l 0 0),fun i=>AO (Bk (nth l 0 0) i 0),AO (nth l 1 0))) (fun _=>rfl) (n,h,x)
theorem M5:Ag Tryz.prog 63 qp:=by
 refine Au Ai GOk.nil Ah Tryz.func63 rfl Tryz.ntmps63 Tryz.results63 6 ?_;rintro⟨n,h,x⟩ hn;replace hn:n<=1000000:=hn;refine⟨by simp,?_⟩;simp[go_sem];refine B2 (fun k:Nat=>⟨[(0,true,.m false [.s .b 1 n (B5 h)]),(1,true,.i x),(5,true,.i k)],[]⟩) (fun k=>n - k) (fun k=>k<=n/\∀i,i<k->h i≠x) 0 (by simp[go_sem]) (by simp) ?_;rintro k ⟨d,a⟩;simp[go_sem,Aj (show k<=1000000000 by omega)];refine⟨fun c=>⟨c,fun e=>⟨k,c,e⟩,fun e=>⟨k+1,⟨by omega,Bf c a e⟩,by omega,rfl⟩⟩,fun c ⟨j,h1,h2⟩=>a j (by omega) h2⟩
def Zv:AH:=AR (fun s:AG=>[slT s]) (fun _=>True) (fun s=>bR (Am s))
theorem Lq(s:AG):Zv [slT s]=some (True,bR (Am s)):=Aa (fun l=>K6 (nth l 0 0) (nth l 0 1) (nth l 0 2)) (fun _=>rfl) s
theorem OS:Ag Tryz.prog 62 Zv:=by
 refine Au Ai GOk.nil Ah Tryz.func62 rfl Tryz.ntmps62 Tryz.results62 3 ?_;rintro s -;refine⟨by simp,?_⟩;simp[go_sem,Am,and_assoc]
def qA:AH:=AR (fun q:Int×Int=>[pT q.1 q.2]) (fun _=>True) (fun q=>bR (q.1=0/\q.2=0))
theorem GD(a b:Int):qA [pT a b]=some (True,bR (a=0/\b=0)):=Aa (fun l=>(AO (nth l 0 0),AO (nth l 0 1))) (fun _=>rfl) (a,b)
theorem Kv:Ag Tryz.prog 78 qA:=by
 refine Au Ai GOk.nil Ah Tryz.func78 rfl Tryz.ntmps78 Tryz.results78 3 ?_;rintro⟨a,b⟩ -;refine⟨by simp,?_⟩;simp[go_sem]
def SI:AH:=AR (fun q:A7×Int×Int=>[poT q.1.n q.1.s q.1.hn q.1.h,pT q.2.1 q.2.2]) (fun q=>q.1.n<=1000000) (fun q=>bR (BA q.1 q.2.1 q.2.2))
theorem R6(p:A7)(a b:Int):SI [poT p.n p.s p.hn p.h,pT a b]=some (p.n<=1000000,bR (BA p a b)):=Aa (fun l=>(Cd (nth l 0 0) (nth l 0 1),AO (nth l 1 0),AO (nth l 1 1))) (fun _=>rfl) (p,a,b)
theorem RT:Ag Tryz.prog 154 SI:=by
 refine Au Ai GOk.nil Ah Tryz.func154 rfl Tryz.ntmps154 Tryz.results154 5 ?_;rintro⟨p,a,b⟩ hn;replace hn:p.n<=1000000:=hn;refine⟨by simp,?_⟩;simp[go_sem];exact⟨fun _ c d=>⟨c,d⟩,by kernel_rfl,by unfold BA;omega⟩
def Zu:AH:=AR (fun q:A7×AG=>[poT q.1.n q.1.s q.1.hn q.1.h,slT q.2]) (fun q=>q.1.n<=1000000) (fun q=>bR (CH q.1 q.2))
theorem zEf(p:A7)(s:AG):Zu [poT p.n p.s p.hn p.h,slT s]=some (p.n<=1000000,bR (CH p s)):=Aa (fun l=>(Cd (nth l 0 0) (nth l 0 1),K6 (nth l 1 0) (nth l 1 1) (nth l 1 2))) (fun _=>rfl) (p,s)
theorem zx:Ag Tryz.prog 115 Zu:=by
 refine Au Ai (GOk.cons RQ (AA Tryz.func153 rfl rfl) (GOk.cons Kv (AA Tryz.func78 rfl rfl) (GOk.cons RT (AA Tryz.func154 rfl rfl) GOk.nil))) Ah Tryz.func115 rfl Tryz.ntmps115 Tryz.results115 7 ?_;rintro⟨p,s⟩ hn;replace hn:p.n<=1000000:=hn;refine⟨by simp,?_⟩;simp[go_sem,Qw];refine⟨fun g h=>g h.1,fun g=>⟨fun l=>?_,fun l=>⟨fun a h=>?_,fun r q=>?_⟩⟩⟩
 ·unfold CH;constructor
  ·exact fun h=>⟨g,.inl ⟨l,by omega⟩⟩
  ·rintro⟨-,h | h⟩<;>omega
 ·rcases h.2 with h | h
  ·omega
  ·rcases a with a | a
   ·omega
   ·exact a (by simpa using h.2.1)
 refine B2 (fun k:Nat=>⟨[(2,true,.m false [.p 2 0]),(3,true,.m false [.p 3 0]),(5,true,.i k)],[(2,.var [.s .b 3 p.n (Ao .b p.s),.s .b 1 p.hn (B5 p.h)]),(3,.var [.v (.int .i64 s.birth),.s .b 2 s.kn (ptrsT s.ks s.kb),.v (.string s.data)])]⟩) (fun k=>s.kn - k) (fun k=>k<=s.kn/\∀i,i<k->Mn p s.birth (s.ks i) (s.kb i)) 0 (by simp[go_sem]) (by simp) ?_;rintro k ⟨t,d⟩;simp[go_sem,Aj (show k<=1000000000 by omega),GD,R6,hn];refine⟨fun j=>⟨j,fun a c=>⟨a,c⟩,fun a c h=>?_,fun a=>⟨k+1,⟨by omega,Bf j d ?_⟩,by omega,rfl⟩⟩,fun j=>⟨g,.inr ⟨by omega,by simp[q],fun i hi=>d i (by omega)⟩⟩⟩
 ·rcases h.2 with h | h
  ·omega
  ·rcases h.2.2 k j with f | f
   ·exact a f.1 f.2
   ·rcases c with c | c
    ·exact c f.1
    ·omega
 ·by_cases c:s.ks k=0/\s.kb k=0
  ·exact .inl c
  ·exact .inr (a (fun e o=>c ⟨e,o⟩))
def PA:AH:=AR (fun p:A7=>[poT p.n p.s p.hn p.h]) (fun p=>p.n<=1000000/\p.hn<=1000000) (fun p=>bR (AX p))
theorem OE(p:A7):PA [poT p.n p.s p.hn p.h]=some (p.n<=1000000/\p.hn<=1000000,bR (AX p)):=Aa (fun l=>Cd (nth l 0 0) (nth l 0 1)) (fun _=>rfl) p
theorem Oh:Ag Tryz.prog 57 PA:=by
 refine Au Ai (GOk.cons OS (AA Tryz.func62 rfl rfl) (GOk.cons M5 (AA Tryz.func63 rfl rfl) (GOk.cons zx (AA Tryz.func115 rfl rfl) GOk.nil))) Ah Tryz.func57 rfl Tryz.ntmps57 Tryz.results57 6 ?_;rintro p ⟨hn,u⟩;refine⟨by simp,?_⟩;simp[go_sem];refine⟨fun o h=>?_,fun o=>?_⟩
 ·have:=h.1;omega
 refine B2 (fun k:Nat=>⟨[(1,true,.m false [.p 1 0]),(3,true,.i k)],[(1,.var [.s .b 3 p.n (Ao .b p.s),.s .b 1 p.hn (B5 p.h)])]⟩) (fun k=>p.n - k) (fun k=>k<=p.n/\∀i,i<k->Am (p.s i)\/CH p (p.s i)) 0 (by simp[go_sem]) (by simp) ?_;rintro k ⟨x,e⟩;simp[go_sem,Aj (show k<=1000000000 by omega),Lq,zEf,hn];refine⟨fun c=>⟨c,fun _=>c,by kernel_rfl,?_⟩,fun c=>?_⟩
 ·exact⟨fun a f h=>(h.2.1 k c).elim a f,fun h=>⟨k+1,⟨by omega,Bf c e (Classical.or_iff_not_imp_left.2 h)⟩,by omega,rfl⟩⟩
 refine B2 (fun j:Nat=>⟨[(4,true,.i j),(1,true,.m false [.p 1 0])],[(1,.var [.s .b 3 p.n (Ao .b p.s),.s .b 1 p.hn (B5 p.h)])]⟩) (fun j=>p.hn - j) (fun j=>j<=p.hn/\∀i,i<j->Yp p i) 0 (by simp[go_sem]) (by simp) ?_;rintro j ⟨t,d⟩;simp[go_sem,Aj (show j<=1000000000 by omega),Lq,KO,u];refine⟨fun c=>⟨c,fun _ _ _=>t,fun _ _ _=>by omega,fun a h=>?_,fun a f q r=>⟨j+1,⟨by omega,Bf c d ⟨a,f,q,r⟩⟩,by omega,rfl⟩⟩,fun c=>⟨by omega,fun i hi=>e i (by omega),fun i hi=>d i (by omega)⟩⟩;obtain⟨v,w,g,l⟩:=h.2.2 j c;rcases a with(a | a) | a
 ·omega
 ·exact g a
 ·exact l a
set_option maxRecDepth 20000
set_option maxHeartbeats 1600000
variable{F G:Nat->Nat->Tr}
theorem GQ:Ae F 0 G=G:=by
 funext p q;simp[Ae]
variable{a:Nat->Int}
theorem I0{b:Nat->Int}:(fun p q=>(ptrsT a b p q).nt)=ptrsT a b:=by
 funext p q;unfold ptrsT;split<;>rfl
theorem SX:(fun p q=>(B5 a p q).nt)=B5 a:=rfl
def Cy{α : Type}(enc:α->Nat->Tr)(d:α)(l:List α):Nat->Nat->Tr:=fun i c=>enc (l[i]?.getD d) c
section
variable {α : Type} {enc : α -> Nat -> Tr} {d : α} {l m : List α} {fl : Fl} {k : Nat}
theorem Ga(h:l=m):TrE (.s fl k l.length (Cy enc d l)) (.s fl k m.length (Cy enc d m)):=h▸TrE.refl _
theorem LV(h:m = []):TrE (.s fl k 0 F) (.s fl k m.length (Cy enc d m)):=by
 subst h;exact⟨.inl rfl,rfl,rfl,fun i j hi=>by omega⟩
theorem zGx{e:Nat}{x:List α}(b:e=x.length)(hF:∀i,(h:i<x.length)->∀j,j<k->F i j=enc x[i] j)(h:l ++ x=m):TrE (.s fl k (l.length+e) (Ae (Cy enc d l) l.length F)) (.s fl k m.length (Cy enc d m)):=by
 subst h b;refine⟨.inl rfl,rfl,by simp,fun i j hi c=>TrE.of_eq ?_⟩;by_cases a:i<l.length
 ·simp[Ae,Cy,a,List.getElem?_append_left a]
 ·simp only[Ae,Cy,if_neg a];rw[hF (i - l.length) (by omega) j c,List.getElem?_append_right (by omega),List.getElem?_eq_getElem (by omega)];rfl
theorem GZ{ts:List Tr}{x:α}(c:∀j,j<k->(ts[j]?.getD (.v (.bool false))).nt=enc x j)(h:l ++ [x]=m):TrE (.s fl k (l.length+1) (Ae (Cy enc d l) l.length (fun p q=>(ts[p*k+q]?.getD (.v (.bool false))).nt))) (.s fl k m.length (Cy enc d m)):=by
 refine zGx (x:=[x]) rfl (fun i hi j b=>?_) h;have a:i=0:=by simpa using hi
 subst a;simpa using c j b
theorem zFK(h:∀x j,j<k->(enc x j).kept):(Tr.s .o k n (Cy enc d l)).kept:=⟨by simp,fun i j _ a=>h _ j a⟩
end
def encP(x:Int×Int):Nat->Tr
 | 0=>.v (.int .i64 x.1)
 | 1=>.v (.int .i64 x.2)
 | _=>.v (.bool false)
abbrev ptL(l:List (Int×Int)):Nat->Nat->Tr:=Cy encP (0,0) l
theorem zI7(l:List (Int×Int)):ptL l=ptrsT (fun i=>(l[i]?.getD (0,0)).1) (fun i=>(l[i]?.getD (0,0)).2):=by
 funext i c
 match c with
 | 0=>rfl
 | 1=>rfl
 | c+2=>rfl
theorem Hu{a b:Int}:∀j,j<2->([Tr.v (Value.int .i64 a),Tr.v (Value.int .i64 b)][j]?.getD (.v (.bool false))).nt=encP (a,b) j
 | 0,_=>rfl
 | 1,_=>rfl
theorem Gf{l:List (Int×Int)}:(Tr.s .o 2 n (ptL l)).kept:=zFK fun x j _=>by unfold encP;split<;>trivial
theorem Kk{b:Nat->Int}:(Tr.s .o 2 n (ptrsT a b)).kept↔True:=by
 refine⟨fun _=>trivial,fun _=>⟨by simp,fun i j _ _=>?_⟩⟩;unfold ptrsT;split<;>trivial
abbrev slO(s:AG):Bool×List Tr:=(true,[.v (.int .i64 s.birth),.s .o 2 s.kn (ptrsT s.ks s.kb),.v (.string s.data)])
def qK:AH:=AR (fun s:AG=>[slT s]) (fun s=>s.kn<=1000000) (fun s=>[slO s])
theorem zEo(s:AG):qK [slT s]=some (s.kn<=1000000,[slO s]):=Aa (fun l=>K6 (nth l 0 0) (nth l 0 1) (nth l 0 2)) (fun _=>rfl) s
theorem zz:Ag Tryz.prog 132 qK:=by
 refine Au Ai GOk.nil Ah Tryz.func132 rfl Tryz.ntmps132 Tryz.results132 3 ?_;rintro s hn;replace hn:s.kn<=1000000:=hn;refine⟨by simp,?_⟩;simp[go_sem,GQ,I0,Kk];omega
def qx:AH:=AR (fun q:Nat×(Nat->Int)×(Nat->Int)=>[(false,[.s .b 2 q.1 (ptrsT q.2.1 q.2.2)])]) (fun q=>q.1<=1000000) (fun q=>[(false,[.s .o 2 (kidsUp q.2.1 q.2.2 q.1).length (ptL (kidsUp q.2.1 q.2.2 q.1))])])
theorem SG(n:Nat)(f g:Nat->Int):qx [(false,[.s .b 2 n (ptrsT f g)])]=some (n<=1000000,[(false,[.s .o 2 (kidsUp f g n).length (ptL (kidsUp f g n))])]):=Aa (fun l=>(DI (nth l 0 0),fun i=>AO (Bk (nth l 0 0) i 0),fun i=>AO (Bk (nth l 0 0) i 1))) (fun _=>rfl) (n,f,g)
theorem VN:Ag Tryz.prog 179 qx:=by
 refine Au Ai (GOk.cons Kv (AA Tryz.func78 rfl rfl) GOk.nil) Ah Tryz.func179 rfl Tryz.ntmps179 Tryz.results179 5 ?_;rintro⟨n,f,g⟩ hn;replace hn:n<=1000000:=hn;refine⟨by simp,?_⟩;simp[go_sem];refine B2 (fun k:Nat=>⟨[(3,true,.m false [.h 7]),(0,true,.m false [.s .b 2 n (ptrsT f g)]),(4,true,.i k)],[(7,.row 2 (kidsUp f g k).length (ptL (kidsUp f g k)))]⟩) (fun k=>n - k) (fun k=>k<=n) 0 (by simp[go_sem,kidsUp];exact LV rfl) (by simp) ?_;rintro k j;have l:=Iw f g k;simp[go_sem,Aj (show k<=1000000000 by omega),GD];refine⟨fun a=>⟨a,fun h=>⟨a,by omega,k+1,by omega,by omega,by omega,GZ Hu (by simp[kidsUp,one,Nil,show ¬(f k=0/\g k=0)from fun e=>h e.1 e.2])⟩,fun c d=>⟨k+1,by omega,by omega,by omega,Ga (by simp[kidsUp,one,Nil,c,d])⟩⟩,fun a=>?_⟩;cases (show k=n from by omega);exact⟨Ga rfl,Gf⟩
def qM:AH:=AR (fun q:Nat×(Nat->Int)×(Nat->Int)=>[(false,[.s .b 2 q.1 (ptrsT q.2.1 q.2.2)])]) (fun q=>q.1<=1000000) (fun q=>bR (kidsUp q.2.1 q.2.2 q.1≠[]))
theorem zEp(n:Nat)(f g:Nat->Int):qM [(false,[.s .b 2 n (ptrsT f g)])]=some (n<=1000000,bR (kidsUp f g n≠[])):=Aa (fun l=>(DI (nth l 0 0),fun i=>AO (Bk (nth l 0 0) i 0),fun i=>AO (Bk (nth l 0 0) i 1))) (fun _=>rfl) (n,f,g)
theorem zA2:Ag Tryz.prog 177 qM:=by
 refine Au Ai (GOk.cons VN (AA Tryz.func179 rfl rfl) GOk.nil) Ah Tryz.func177 rfl Tryz.ntmps177 Tryz.results177 3 ?_;rintro⟨n,f,g⟩ hn;replace hn:n<=1000000:=hn;refine⟨by simp,?_⟩;simp[go_sem,SG,hn];exact List.length_pos_iff
def SF:AH:=AR (fun q:Int=>[iT q]) (fun _=>True) (fun q=>bR (0<=q/\q<=63))
theorem OT(x:Int):SF [iT x]=some (True,bR (0<=x/\x<=63)):=Aa (fun l=>AO (nth l 0 0)) (fun _=>rfl) x
theorem YM:Ag Tryz.prog 174 SF:=by
 refine Au Ai (GOk.cons Ln (AA Tryz.func84 rfl rfl) GOk.nil) Ah Tryz.func174 rfl Tryz.ntmps174 Tryz.results174 3 ?_;rintro x -;refine⟨by simp,?_⟩;simp[go_sem,LL]
def Zz:AH:=AR (fun q:A7×Int×Int=>[poT q.1.n q.1.s q.1.hn q.1.h,pT q.2.1 q.2.2]) (fun q=>q.1.n<=1000000/\q.1.hn<=1000000) (fun q=>bR (JT q.1 q.2.1 q.2.2))
theorem Tq(p:A7)(a b:Int):Zz [poT p.n p.s p.hn p.h,pT a b]=some (p.n<=1000000/\p.hn<=1000000,bR (JT p a b)):=Aa (fun l=>(Cd (nth l 0 0) (nth l 0 1),AO (nth l 1 0),AO (nth l 1 1))) (fun _=>rfl) (p,a,b)
theorem zA0:Ag Tryz.prog 116 Zz:=by
 refine Au Ai (GOk.cons RT (AA Tryz.func154 rfl rfl) (GOk.cons M5 (AA Tryz.func63 rfl rfl) GOk.nil)) Ah Tryz.func116 rfl Tryz.ntmps116 Tryz.results116 5 ?_;rintro⟨p,a,b⟩ ⟨hn,c⟩;replace hn:p.n<=1000000:=hn;replace c:p.hn<=1000000:=c;refine⟨by simp,?_⟩;simp[go_sem,R6,KO,hn,c];exact⟨fun h=>⟨h.2.1,h.2.2.1⟩,and_assoc⟩
def qD:AH:=AR (fun q:A7×Int×Int=>[poT q.1.n q.1.s q.1.hn q.1.h,pT q.2.1 q.2.2]) (fun q=>q.1.n<=1000000/\q.1.hn<=1000000) (fun q=>bR (LQ q.1 q.2.1 q.2.2))
theorem zEh(p:A7)(a b:Int):qD [poT p.n p.s p.hn p.h,pT a b]=some (p.n<=1000000/\p.hn<=1000000,bR (LQ p a b)):=Aa (fun l=>(Cd (nth l 0 0) (nth l 0 1),AO (nth l 1 0),AO (nth l 1 1))) (fun _=>rfl) (p,a,b)
theorem zA1:Ag Tryz.prog 117 qD:=by
 refine Au Ai (GOk.cons RT (AA Tryz.func154 rfl rfl) (GOk.cons M5 (AA Tryz.func63 rfl rfl) GOk.nil)) Ah Tryz.func117 rfl Tryz.ntmps117 Tryz.results117 5 ?_;rintro⟨p,a,b⟩ ⟨hn,c⟩;replace hn:p.n<=1000000:=hn;replace c:p.hn<=1000000:=c;refine⟨by simp,?_⟩;simp[go_sem,R6,KO,hn,c];exact⟨fun h=>⟨h.2.1,h.2.2.1⟩,and_assoc⟩
set_option maxRecDepth 20000
set_option maxHeartbeats 1600000
theorem BZ:(Tr.s .o 3 n (Ao .z s)).kept:=⟨by simp,fun i j _ d=>match j,d with
 | 0,_=>trivial
 | 1,_=>⟨by simp,fun a b _ c=>match b,c with
  | 0,_=>trivial
  | 1,_=>trivial⟩
 | 2,_=>trivial⟩
theorem Bj:(Tr.s .o 1 n (B5 h)).kept:=⟨by simp,fun i j _ _=>trivial⟩
theorem zFM(h:∀j,j<k->G 0 j=F n j):TrE (.s fl k (n+1) (Ae F n G)) (.s fl k (n+1) F):=by
 refine⟨.inl rfl,rfl,rfl,fun i j hi b=>TrE.of_eq ?_⟩;unfold Ae;by_cases a:i<n
 ·rw[if_pos a]
 ·cases (show i=n by omega);rw[if_neg a,Nat.sub_self,h j b]
abbrev poO(p:A7):Bool×List Tr:=(true,[.s .o 3 p.n (Ao .z p.s),.s .o 1 p.hn (B5 p.h)])
def Zc:AH:=AR (fun p:A7=>[poT p.n p.s p.hn p.h]) (fun p=>p.n<=1000000/\p.hn<=1000000/\∀i,i<p.n->(p.s i).kn<=1000000) (fun p=>[poO p])
theorem Lo(p:A7):Zc [poT p.n p.s p.hn p.h]=some (p.n<=1000000/\p.hn<=1000000/\∀i,i<p.n->(p.s i).kn<=1000000,[poO p]):=Aa (fun l=>Cd (nth l 0 0) (nth l 0 1)) (fun _=>rfl) p
theorem OR:Ag Tryz.prog 75 Zc:=by
 refine Au Ai (GOk.cons zz (AA Tryz.func132 rfl rfl) GOk.nil) Ah Tryz.func75 rfl Tryz.ntmps75 Tryz.results75 5 ?_;rintro p ⟨hn,d,f⟩;replace hn:p.n<=1000000:=hn;replace d:p.hn<=1000000:=d;refine⟨by simp,?_⟩;simp[go_sem,GQ,SX];refine⟨by omega,?_⟩;refine B2 (fun k:Nat=>⟨[(4,true,.i k),(3,true,.m false [.p 3 0]),(2,true,.m false [.p 2 0]),(1,true,.m false [.p 1 0])],[(3,.var [.h 7,.h 8]),(7,.row 3 k (Ao .z p.s)),(8,.row 1 p.hn (B5 p.h)),(2,.var [.v n0,.v n0]),(1,.var [.s .b 3 p.n (Ao .b p.s),.s .b 1 p.hn (B5 p.h)])]⟩) (fun k=>p.n - k) (fun k=>k<=p.n) 0 ?_ (by simp) ?_
 ·simp[go_sem];exact TrE.refl (.s .o 1 p.hn (B5 p.h))
 rintro k g;simp[go_sem,Aj (show k<=1000000000 by omega),zEo];refine⟨fun c=>?_,fun c=>?_⟩
 ·have a:=f k c;refine⟨c,a,by omega,by kernel_rfl,k+1,by omega,by omega,by omega,zFM fun j e=>?_⟩
  match j,e with
  | 0,_=>rfl
  | 1,_=>rfl
  | 2,_=>rfl
 ·cases (show k=p.n by omega);exact⟨⟨TrE.refl _,BZ⟩,Bj⟩
def GP(x:Int):Nat:=if 0<=x/\x<=200 then x.toNat else 0
def qC:AH:=AR (fun x:Int=>[iT x]) (fun _=>True) (fun x=>[poO (Ce (GP x))])
theorem zEg(x:Int):qC [iT x]=some (True,[poO (Ce (GP x))]):=Aa (fun l=>AO (nth l 0 0)) (fun _=>rfl) x
theorem zAa:Ag Tryz.prog 85 qC:=by
 refine Au Ai GOk.nil Ah Tryz.func85 rfl Tryz.ntmps85 Tryz.results85 5 ?_;rintro x -;refine⟨by simp,?_⟩;simp[go_sem];refine B2 (fun k:Nat=>⟨[(4,true,.i k),(0,true,.i x),(3,true,.m false [.p 3 0]),(2,true,.m false [.p 2 0])],[(3,.var [.h 7,.v n0]),(7,.row 3 k (Ao .z fun _=>EM)),(2,.var [.v n0,.v n0])]⟩) (fun k=>200 - k) (fun k=>k<=GP x) 0 (by simp[go_sem]) (by simp) ?_;rintro k n;have o:GP x<=200:=by unfold GP;split<;>omega
 have g:IntKind.i64.wrap ((k:Int)+1)=(k+1:Nat):=by simpa using Aj (show k<=1000000000 by omega)
 simp[go_sem,Ce];refine⟨fun l d=>?_,fun h=>?_⟩
 ·have c:GP x=x.toNat:=if_pos ⟨by omega,d⟩;refine⟨by omega,k+1,by omega,by omega,g,?_⟩;refine⟨.inl rfl,rfl,rfl,fun i j hi f=>?_⟩;unfold Ae;by_cases b:i<k
  ·rw[if_pos b];exact TrE.refl _
  ·cases (show i=k by omega);rw[if_neg b,Nat.sub_self]
   match j,f with
   | 0,_=>rfl
   | 1,_=>exact⟨rfl,rfl⟩
   | 2,_=>rfl
 ·have c:k=GP x:=by
   by_cases a:0<=x/\x<=200
   ·have e:GP x=x.toNat:=if_pos a;omega
   ·have e:GP x=0:=if_neg a;omega
  rw[c];exact⟨TrE.refl _,BZ⟩
end
end Go.Proofs.YtnfjcaoclahfjaaGreatDoor
