/- For every two texts of bytes that come in the law FnSpace returns true: the slots of a drawn right world are free, or held, or in some tree; what a set has, what a snapshot has written, what has changed between two are told as spec tells them. No condition. -/
import Derived.Test.YtginldeebkfbgaaGreatRows
import Derived.Test.YtginldeebkfbgaaGreatF29
import Derived.OpenShut
import Derived.ChangeOld
import Derived.Deep.Slices
import Derived.Lib.SmallJoins
set_option linter.unusedVariables false
set_option maxRecDepth 20000
set_option maxHeartbeats 4000000
namespace Go.Proofs.YtginldeebkfbgaaGreat
open Go.RowKit Go.Deep Go.Joins
open Go.ChangeShapes Go.WideShapes Go.ChangeAt
theorem own:ownKnob Tryz.prog.godebug=none:=by kernel_rfl
theorem zTS:laidOutB Tryz.prog=true:=by kernel_rfl
theorem zM5{H:Type}{enc:TypeId×Value->H}{W:World}{aA:Nat->Bool}{held:Bool}{bA:Nat}{v:Value}{x:DataW H×List MemPlace}(h:DataW.trod enc Tryz.prog W 0 aA held bA 22 [v]=some x) :
  ∃a n c,v = .slice a n c/\n<=c/\n<=maxLen/\zIO W a n:=by
 rcases open_slice1 (t:=22) (e:=5) (by kernel_rfl) (by kernel_rfl) h with⟨hv,_⟩ | ⟨a,len,cap,m,n,V,D,Pl,hv,_,hl,hm,eA,_,hx⟩
 ·exact⟨none,0,0,by simpa using hv,Nat.le_refl _,Nat.zero_le _,fun h=>absurd h (Nat.lt_irrefl _)⟩
 ·have gA:len<=m:=(by rw[eA];split<;>omega);refine⟨some a,len,cap,by simpa using hv,hl,by omega,fun h0=>?_⟩;have cA:=(hx 0 (by omega)).1;rw[show a.add 0=a by simp[Addr.add]]at cA;obtain⟨b,off,spot⟩:=a;have hs:spot=none:=(by simpa using World.cell?_spot cA);subst hs;refine⟨b,off,rfl,zO cA,fun i hi=>?_⟩;obtain⟨hc,ht⟩:=hx i (by omega);rw[Addr.add_mid]at hc;obtain⟨z,hz,_,hr⟩:=DataW.trod_int (show Tryz.prog.underlying 5=some (.int .u8)by kernel_rfl) ht;have fA:V i = .int .u8 z:=(by simpa using hz);have dA:0<=z/\z<256:=by
   have e1:IntKind.u8.min=0:=rfl;have e2:IntKind.u8.max=255:=rfl;simp[Lit.wf]at hr;omega
  exact⟨z,by rw[hc,fA],dA.1,dA.2⟩
theorem zMJ{H:Type}{enc:TypeId×Value->H}{W:World}{aA:Nat->Bool}{held:Bool}{v:Value}{d:DataW H}{ps:List MemPlace}(hv:v.cells=#[v])(h:DataW.Trod enc Tryz.prog W 0 aA held 22 v d ps) :
  ∃a n c,v = .slice a n c/\n<=c/\n<=maxLen/\zIO W a n:=by
 obtain⟨bA,hf⟩:=h;exact zM5 (by simpa[hv]using hf)
theorem zLb(os:Os)(aA:os.Started)(H:Type)(enc:TypeId×Value->H) :
  ReturnsInHanded {} Tryz.checked os 3 .any (Rows.fnSpaceSpec.pre6 enc Tryz.prog Tryz.f3 Rows.fnSpaceRow.domain false) (Rows.fnSpaceSpec.post enc Tryz.prog Tryz.f3 false true false false):=by
 refine returnsInHanded_of_change (C:=Tryz.checked) own aA (by kernel_rfl) Tryz.func3
  (ChangeSpec.witness6 (enc:=enc) (C:=Tryz.checked) false ⟨#[],#[.slice none 0 0,.slice none 0 0],[]⟩ 8 (by kernel_rfl) (by kernel_rfl) (by kernel_rfl) (by kernel_rfl)) ?_
 intro W base args ds gs dA bA hW nA _;have cA:∀(j:Nat) t v,Tryz.f3.params[j]?=some t->args[j]?=some v->Value.okWide Tryz.prog W .any base t v:=bA;have iA:=hW;obtain⟨p,q,fA,hV,rfl,tA,bB⟩:=hW;have hA:DataW.TrodAll enc Tryz.prog W 0 (fun _=>true) true Tryz.f3.params.toList args.toList ds p:=fA;rw[Tryz.params3]at hA cA;obtain⟨v0,cB,d0,rA,p0,q0,gA,rfl,rfl,h0,r0⟩:=trodAll_cons hA;obtain⟨v1,eB,d1,sA,p1,q1,eA,rfl,rfl,h1,r1⟩:=trodAll_cons r0;obtain⟨rfl,rfl,rfl⟩:=trodAll_nil r1;obtain rfl:args=#[v0,v1]:=by cases args;simp_all
 obtain⟨rfl,rfl⟩:=trodVars_none hV;have k0:=h0;have k1:=h1;have oA:∀x∈p0,x.block<W.heap.size:=by obtain⟨m,hm⟩:=k0;exact DataW.trod_lt m _ _ _ hm
 have pA:∀x∈p1,x.block<W.heap.size:=by obtain⟨m,hm⟩:=k1;exact DataW.trod_lt m _ _ _ hm
 have o0:=cA 0 22 v0 rfl rfl;have o1:=cA 1 22 v1 rfl rfl;have s0:v0.cells=#[v0]:=by obtain⟨_,_,_,rfl⟩:=okWide_slice (e:=5) (by kernel_rfl) o0;rfl
 have s1:v1.cells=#[v1]:=by obtain⟨_,_,_,rfl⟩:=okWide_slice (e:=5) (by kernel_rfl) o1;rfl
 obtain⟨a0,n0,c0,rfl,lA,vA,jA⟩:=zMJ s0 h0;obtain⟨a1,n1,c1,rfl,mA,aB,kA⟩:=zMJ s1 h1;clear fA bA;refine(zOs a0 a1 n0 c0 n1 c1 W jA kA lA mA).mono fun e W' ⟨he,bel⟩=>?_
 subst he;exact⟨_,rfl,_,_,_,[],_,[],iA,trodAll_mk1 (shut_bool Tryz.underlying4 _),(trodAll_cons_mk (Below.trod zTS (by kernel_rfl) (of_decide_eq_true (by kernel_rfl)) k0 bel oA) (trodAll_cons_mk (Below.trod zTS (by kernel_rfl) (of_decide_eq_true (by kernel_rfl)) k1 bel pA) trodAll_mk0)),rfl,bel.frame _,fun h=>by cases h⟩
theorem fnSpace_holds:Rows.FnSpaceSaid:=
 OpenClaim.holds_of_wide 3 Tryz.f3 rfl rfl rfl rfl rfl rfl rfl ⟨rfl,rfl,rfl,rfl,rfl⟩ rfl rfl rfl rfl rfl (by kernel_rfl) Tryz.func3 (by kernel_rfl)
  (of_decide_eq_true (by kernel_rfl)) (by unfold Func.isWrapper;first | (rw[if_pos (by decide +kernel)];kernel_rfl) | (rw[if_neg (by decide +kernel)];exact⟨rfl,rfl⟩))
  (fun os aA H enc _=>zLb os aA H enc)
end Go.Proofs.YtginldeebkfbgaaGreat
