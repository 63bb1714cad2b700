/- For every two texts of bytes that come in the law FnSnap returns true: a snapshot that is taken of a set of a drawn right world has its pages, all else is as ahead, and it stays so when the set is written; the world stays right. -/
import Derived.Test.YtddigaohmfpepaaGreatDoorF21
import Derived.Test.YtddigaohmfpepaaGreatDoorTie
import Derived.Test.YtddigaohmfpepaaGreatDoorCards
import Derived.Deep.Slices
import Derived.Lib.SmallJoins
import Derived.SevenTiedAt
set_option linter.unusedVariables false
set_option maxRecDepth 20000
set_option maxHeartbeats 4000000
namespace Go.Proofs.YtddigaohmfpepaaGreatDoor
open Go.ChangeShapes Go.WideShapes Go.ChangeAt Go.RowKit Go.Deep Go.Joins
theorem zFp:ownKnob Tryz.prog.godebug=none:=by kernel_rfl
theorem Sx:laidOutB Tryz.prog=true:=by kernel_rfl
def NO:List Nat:=[2,3,4,1,0,5,6]
variable{held:Bool}
theorem zCd{H:Type}{enc:TypeId×Value->H}{W:World}{f:Nat->Bool}{g:Nat}{v:Value}{x:DataW H×List MemPlace}(h:DataW.trod enc Tryz.prog W 0 f held g 22 [v]=some x) :
 ∃a n c,v = .slice a n c/\n<=c/\n<=maxLen/\Le W a n:=by
 rcases open_slice1 (t:=22) (e:=5) (by kernel_rfl) (by kernel_rfl) h with⟨hv,_⟩ | ⟨a,len,cap,m,n,V,D,y,hv,_,q,E,k,_,p⟩
 ·exact⟨none,0,0,by simpa using hv,Nat.le_refl _,Nat.zero_le _,fun h=>absurd h (Nat.lt_irrefl _)⟩
 ·have r:len<=m:=(by rw[k];split<;>omega);refine⟨some a,len,cap,by simpa using hv,q,by omega,fun C=>?_⟩;have d:=(p 0 (by omega)).1;rw[show a.add 0=a by simp[Addr.add]]at d;obtain⟨b,off,spot⟩:=a;have hs:spot=none:=(by simpa using World.cell?_spot d);subst hs;refine⟨b,off,rfl,AV d,fun i hi=>?_⟩;obtain⟨o,u⟩:=p i (by omega);rw[Addr.add_mid]at o;obtain⟨z,w,_,s⟩:=DataW.trod_int (show Tryz.prog.underlying 5=some (.int .u8)by kernel_rfl) u;have l:V i = .int .u8 z:=(by simpa using w);have j:0<=z/\z<256:=by
   have A:IntKind.u8.min=0:=rfl;have B:IntKind.u8.max=255:=rfl;simp[Lit.wf]at s;omega
  exact⟨z,by rw[o,l],j.1,j.2⟩
theorem Xf{H:Type}{enc:TypeId×Value->H}{W:World}{b:Nat->Bool}{v:Value}{d:DataW H}{ps:List MemPlace}(hv:v.cells=#[v])(h:DataW.Trod enc Tryz.prog W 0 b held 22 v d ps) :
 ∃a n c,v = .slice a n c/\n<=c/\n<=maxLen/\Le W a n:=by
 obtain⟨e,f⟩:=h;exact zCd (by simpa[hv]using f)
theorem zCV(os:Os)(c:os.Started)(H:Type)(enc:TypeId×Value->H) :
 ReturnsInHanded {} Tryz.checked os 3 .any (fun w args=>(Rows.fnSnapSpec.pre enc Tryz.prog Tryz.f3 [] false w args/\laidMetH Tryz.prog LF w)/\sizedMet enc Tryz.prog Tryz.f3 (OpenSpec.ofChange Rows.fnSnapSpec) false w args)
  (Rows.fnSnapSpec.post enc Tryz.prog Tryz.f3 false true false false):=by
 refine returnsInHanded_of_change_and (C:=Tryz.checked) (X:=fun w _=>laidMetH Tryz.prog LF w) (fun _ _ _ V h=>h.of_heap V) zFp c (by kernel_rfl) Tryz.func3
  (ChangeSpec.witness_at (enc:=enc) (C:=Tryz.checked) (os:=os) (X:=fun w _=>laidMetH Tryz.prog LF w) false (X7 os) #[.slice none 0 0,.slice none 0 0] 8 rfl (by kernel_rfl) (by kernel_rfl) (by kernel_rfl) (by kernel_rfl) (by kernel_rfl) (zCb os _)) ?_
 intro W base args N gs k b I _ _ R _;have a:∀(j:Nat) t v,Tryz.f3.params[j]?=some t->args[j]?=some v->Value.okWide Tryz.prog W .any base t v:=b;have r:=I;obtain⟨p,q,f,g,rfl,U,aA⟩:=I;have G:DataW.TrodAll enc Tryz.prog W 0 (fun _=>true) true Tryz.f3.params.toList args.toList N p:=f;have S:DataW.TrodVars enc Tryz.prog W (fun _=>true) (NO.map errN) gs q:=g;rw[Tryz.params3]at G a;obtain⟨o,iA,d0,O,p0,q0,l,rfl,rfl,E,r0⟩:=trodAll_cons G;obtain⟨v1,jA,d1,P,p1,q1,n,rfl,rfl,F,r1⟩:=trodAll_cons r0;obtain⟨rfl,rfl,rfl⟩:=trodAll_nil r1;obtain rfl:args=#[o,v1]:=by cases args;simp_all
 obtain⟨pe,Q,d⟩:=zC6 R;obtain⟨rfl,rfl⟩:=S.unique (R9 enc d _ NO (by decide));have J:=E;have K:=F;have B:∀x∈p0,x.block<W.heap.size:=by obtain⟨m,A⟩:=J;exact DataW.trod_lt m _ _ _ A
 have D:∀x∈p1,x.block<W.heap.size:=by obtain⟨m,A⟩:=K;exact DataW.trod_lt m _ _ _ A
 have o0:=a 0 22 o rfl rfl;have o1:=a 1 22 v1 rfl rfl;have s0:o.cells=#[o]:=by obtain⟨_,_,_,rfl⟩:=okWide_slice (e:=5) (by kernel_rfl) o0;rfl
 have s1:v1.cells=#[v1]:=by obtain⟨_,_,_,rfl⟩:=okWide_slice (e:=5) (by kernel_rfl) o1;rfl
 obtain⟨L,n0,c0,rfl,y,Y,s⟩:=Xf s0 E;obtain⟨M,n1,c1,rfl,z,Z,u⟩:=Xf s1 F;clear f g b;refine(zBM L M n0 c0 n1 c1 W s u y z Q).mono fun e W' ⟨T,bel⟩=>?_
 subst T;exact⟨_,rfl,_,_,_,[],_,NO.map (fun i=>.cell (errG i) 0),r,trodAll_mk1 (shut_bool Tryz.underlying4 _),(trodAll_cons_mk (Below.trod Sx (by kernel_rfl) (of_decide_eq_true (by kernel_rfl)) J bel B) (trodAll_cons_mk (Below.trod Sx (by kernel_rfl) (of_decide_eq_true (by kernel_rfl)) K bel D) trodAll_mk0)),R9 enc (fun i hi=>zA9 (d i hi) bel) _ NO (by decide),bel.frame _,fun h=>by cases h⟩
theorem zAZ:Rows.FnSnapSaid:=
 OpenClaim.holds_of_wide 3 Tryz.f3 rfl rfl rfl rfl rfl rfl rfl ⟨rfl,rfl,rfl,rfl,rfl⟩ rfl rfl rfl rfl rfl (by kernel_rfl) Tryz.func3 (by kernel_rfl)
  (of_decide_eq_true (by kernel_rfl)) (by unfold Func.isWrapper;first | (rw[if_pos (by decide +kernel)];kernel_rfl) | (rw[if_neg (by decide +kernel)];exact⟨rfl,rfl⟩))
  (fun os a H enc _=>zCV os a H enc)
theorem fnSnap_holds:Rows.FnSnapCardSaid:=
 Claim7.holds_tied_plain_at .later [] [.sentinel,.sentinel,.sentinel,.sentinel,.sentinel,.sentinel,.sentinel] true (true,Rows.fnSnapCard.stood.harness.2) true
  zAZ (fun _ h=>by cases h) (by kernel_rfl) (fun _ h=>by cases h) fnSnap_row_tie rfl ⟨rfl,rfl⟩ (by kernel_rfl) rfl
  (fun f fn d b=>by
   obtain rfl:f=3:=Option.some.inj ((show Tryz.prog.funcNamed "loop.example/g00381/laws.FnSnap" = some 3 by kernel_rfl).symm.trans d) |>.symm;obtain rfl:fn=Tryz.f3:=(Option.some.inj (Tryz.func3.symm.trans b)).symm;exact⟨by kernel_rfl,fun j t c=>by
    rw[Tryz.params3]at c;have e:t∈[22,22]:=(by simpa using Array.mem_of_getElem? c);have a:([22,22].all fun u=>!Tryz.prog.wantsStandIn u)=true:=(by kernel_rfl);exact(show Tryz.prog.wantsStandIn t=false by simpa using List.all_eq_true.1 a t e)⟩)
  (by kernel_rfl)
end Go.Proofs.YtddigaohmfpepaaGreatDoor
