/- For every text of bytes that comes in the law FnDrop returns true: a snapshot of a drawn right world that is destroyed frees just what it had alone; all else is as ahead, and it is gone; the world stays right. -/
import Derived.Test.YtnfjcaoclahfjaaGreatDoorF34
import Derived.Test.YtnfjcaoclahfjaaGreatDoorTie
import Derived.Test.YtnfjcaoclahfjaaGreatDoorCards
import Derived.Deep.Slices
import Derived.Lib.SmallJoins
import Derived.SevenTiedAt
set_option linter.unusedVariables false
set_option maxRecDepth 20000
set_option maxHeartbeats 4000000
namespace Go.Proofs.YtnfjcaoclahfjaaGreatDoor
open Go.ChangeShapes Go.WideShapes Go.ChangeAt Go.RowKit Go.Deep Go.Joins
theorem zFA:ownKnob Tryz.prog.godebug=none:=by kernel_rfl
theorem zGh:laidOutB Tryz.prog=true:=by kernel_rfl
def Na:List Nat:=[2,5,1,0,3,4,6]
variable{held:Bool}
theorem zCf{H:Type}{enc:TypeId×Value->H}{W:World}{f:Nat->Bool}{g:Nat}{v:Value}{x:DataW H×List MemPlace}(h:DataW.trod enc Tryz.prog W 0 f held g 22 [v]=some x) :
 ∃a n c,v = .slice a n c/\n<=c/\n<=maxLen/\NW W a n:=by
 rcases open_slice1 (t:=22) (e:=5) (by kernel_rfl) (by kernel_rfl) h with⟨hv,_⟩ | ⟨a,len,cap,m,n,V,D,y,hv,_,q,E,k,_,p⟩
 ·exact⟨none,0,0,by simpa using hv,Nat.le_refl _,Nat.zero_le _,fun h=>absurd h (Nat.lt_irrefl _)⟩
 ·have r:len<=m:=(by rw[k];split<;>omega);refine⟨some a,len,cap,by simpa using hv,q,by omega,fun C=>?_⟩;have d:=(p 0 (by omega)).1;rw[show a.add 0=a by simp[Addr.add]]at d;obtain⟨b,off,spot⟩:=a;have hs:spot=none:=(by simpa using World.cell?_spot d);subst hs;refine⟨b,off,rfl,AM d,fun i hi=>?_⟩;obtain⟨o,u⟩:=p i (by omega);rw[Addr.add_mid]at o;obtain⟨z,w,_,s⟩:=DataW.trod_int (show Tryz.prog.underlying 5=some (.int .u8)by kernel_rfl) u;have l:V i = .int .u8 z:=(by simpa using w);have j:0<=z/\z<256:=by
   have A:IntKind.u8.min=0:=rfl;have B:IntKind.u8.max=255:=rfl;simp[Lit.wf]at s;omega
  exact⟨z,by rw[o,l],j.1,j.2⟩
theorem zAM{H:Type}{enc:TypeId×Value->H}{W:World}{b:Nat->Bool}{v:Value}{d:DataW H}{ps:List MemPlace}(hv:v.cells=#[v])(h:DataW.Trod enc Tryz.prog W 0 b held 22 v d ps) :
 ∃a n c,v = .slice a n c/\n<=c/\n<=maxLen/\NW W a n:=by
 obtain⟨e,f⟩:=h;exact zCf (by simpa[hv]using f)
theorem zCW(os:Os)(b:os.Started)(H:Type)(enc:TypeId×Value->H) :
 ReturnsInHanded {} Tryz.checked os 3 .any (fun w args=>(Rows.fnDropSpec.pre enc Tryz.prog Tryz.f3 [] false w args/\laidMetH Tryz.prog LA w)/\sizedMet enc Tryz.prog Tryz.f3 (OpenSpec.ofChange Rows.fnDropSpec) false w args)
  (Rows.fnDropSpec.post enc Tryz.prog Tryz.f3 false true false false):=by
 refine returnsInHanded_of_change_and (C:=Tryz.checked) (X:=fun w _=>laidMetH Tryz.prog LA w) (fun _ _ _ M h=>h.of_heap M) zFA b (by kernel_rfl) Tryz.func3
  (ChangeSpec.witness_at (enc:=enc) (C:=Tryz.checked) (os:=os) (X:=fun w _=>laidMetH Tryz.prog LA w) false (VR os) #[.slice none 0 0] 8 rfl (by kernel_rfl) (by kernel_rfl) (by kernel_rfl) (by kernel_rfl) (by kernel_rfl) (zCd os _)) ?_
 intro W base args E gs k a A _ _ I _;have c:∀(j:Nat) t v,Tryz.f3.params[j]?=some t->args[j]?=some v->Value.okWide Tryz.prog W .any base t v:=a;have o:=A;obtain⟨p,q,f,g,rfl,L,P⟩:=A;have z:DataW.TrodAll enc Tryz.prog W 0 (fun _=>true) true Tryz.f3.params.toList args.toList E p:=f;have J:DataW.TrodVars enc Tryz.prog W (fun _=>true) (Na.map errN) gs q:=g;rw[Tryz.params3]at z c;obtain⟨n,T,V,F,R,Z,l,rfl,rfl,y,r0⟩:=trodAll_cons z;obtain⟨rfl,rfl,rfl⟩:=trodAll_nil r0;obtain rfl:args=#[n]:=by cases args;simp_all
 obtain⟨Y,G,d⟩:=zC9 I;obtain⟨rfl,rfl⟩:=J.unique (Qq enc d _ Na (by decide));have B:=y;have u:∀x∈R,x.block<W.heap.size:=by obtain⟨m,N⟩:=B;exact DataW.trod_lt m _ _ _ N
 have Q:=c 0 22 n rfl rfl;have S:n.cells=#[n]:=by obtain⟨_,_,_,rfl⟩:=okWide_slice (e:=5) (by kernel_rfl) Q;rfl
 obtain⟨D,n0,c0,rfl,s,O,r⟩:=zAM S y;clear f g a;refine(zBa D n0 c0 W r s G).mono fun e U ⟨K,bel⟩=>?_
 subst K;exact⟨_,rfl,_,_,_,[],_,Na.map (fun i=>.cell (Ee i) 0),o,trodAll_mk1 (shut_bool Tryz.underlying4 _),(trodAll_cons_mk (Below.trod zGh (by kernel_rfl) (of_decide_eq_true (by kernel_rfl)) B bel u) trodAll_mk0),Qq enc (fun i hi=>zf (d i hi) bel) _ Na (by decide),bel.frame _,fun h=>by cases h⟩
theorem zB3:Rows.FnDropSaid:=
 OpenClaim.holds_of_wide 3 Tryz.f3 rfl rfl rfl rfl rfl rfl rfl ⟨rfl,rfl,rfl,rfl,rfl⟩ rfl rfl rfl rfl rfl (by kernel_rfl) Tryz.func3 (by kernel_rfl)
  (of_decide_eq_true (by kernel_rfl)) (by unfold Func.isWrapper;first | (rw[if_pos (by decide +kernel)];kernel_rfl) | (rw[if_neg (by decide +kernel)];exact⟨rfl,rfl⟩))
  (fun os a H enc _=>zCW os a H enc)
theorem fnDrop_holds:Rows.FnDropCardSaid:=
 Claim7.holds_tied_plain_at .later [] [.sentinel,.sentinel,.sentinel,.sentinel,.sentinel,.sentinel,.sentinel] true (true,Rows.fnDropCard.stood.harness.2) true
  zB3 (fun _ h=>by cases h) (by kernel_rfl) (fun _ h=>by cases h) fnDrop_row_tie rfl ⟨rfl,rfl⟩ (by kernel_rfl) rfl
  (fun f fn d b=>by
   obtain rfl:f=3:=Option.some.inj ((show Tryz.prog.funcNamed "loop.example/g00381/laws.FnDrop" = some 3 by kernel_rfl).symm.trans d) |>.symm;obtain rfl:fn=Tryz.f3:=(Option.some.inj (Tryz.func3.symm.trans b)).symm;exact⟨by kernel_rfl,fun j t c=>by
    rw[Tryz.params3]at c;have e:t∈[22]:=(by simpa using Array.mem_of_getElem? c);have a:([22].all fun u=>!Tryz.prog.wantsStandIn u)=true:=(by kernel_rfl);exact(show Tryz.prog.wantsStandIn t=false by simpa using List.all_eq_true.1 a t e)⟩)
  (by kernel_rfl)
end Go.Proofs.YtnfjcaoclahfjaaGreatDoor
