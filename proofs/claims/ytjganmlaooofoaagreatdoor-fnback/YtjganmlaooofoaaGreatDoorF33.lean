/- For every two texts of bytes that come in the law FnBack returns true: a set of a drawn right world that is rolled back has the pages of its last snapshot, and frees just what it had alone; one that is destroyed does so, too; all else is as ahead; impl answers as spec. The seven errors of the package are as its text lays them (the card ties them to it). -/
import Derived.Test.YtjganmlaooofoaaGreatDoorF32
import Derived.Test.YtjganmlaooofoaaGreatDoorTie
import Derived.Test.YtjganmlaooofoaaGreatDoorCards
import Derived.Deep.Slices
import Derived.Lib.SmallJoins
import Derived.SevenTiedAt
set_option linter.unusedVariables false
set_option maxRecDepth 20000
set_option maxHeartbeats 4000000
namespace Go.Proofs.YtjganmlaooofoaaGreatDoor
open Go.ChangeShapes Go.WideShapes Go.ChangeAt Go.RowKit Go.Deep Go.Joins
theorem zZn:ownKnob Tryz.prog.godebug=none:=by kernel_rfl
theorem zVB:laidOutB Tryz.prog=true:=by kernel_rfl
def zLw:List Nat:=[2,1,0,3,4,5,6]
theorem zOV{H:Type}{enc:TypeId×Value->H}{W:World}{aA:Nat->Bool}{held:Bool}{bA:Nat}{v:Value}{x:DataW H×List MemPlace}(h:DataW.trod enc Tryz.prog W 0 aA held bA 22 [v]=some x) :
  ∃a n c,v = .slice a n c/\n<=c/\n<=maxLen/\zJT W a n:=by
 rcases open_slice1 (t:=22) (e:=5) (by kernel_rfl) (by kernel_rfl) h with⟨hv,_⟩ | ⟨a,len,cap,m,n,V,D,Pl,hv,_,hl,hm,eA,_,hx⟩
 ·exact⟨none,0,0,by simpa using hv,Nat.le_refl _,Nat.zero_le _,fun h=>absurd h (Nat.lt_irrefl _)⟩
 ·have gA:len<=m:=(by rw[eA];split<;>omega);refine⟨some a,len,cap,by simpa using hv,hl,by omega,fun h0=>?_⟩;have cA:=(hx 0 (by omega)).1;rw[show a.add 0=a by simp[Addr.add]]at cA;obtain⟨b,off,spot⟩:=a;have hs:spot=none:=(by simpa using World.cell?_spot cA);subst hs;refine⟨b,off,rfl,zH cA,fun i hi=>?_⟩;obtain⟨hc,ht⟩:=hx i (by omega);rw[Addr.add_mid]at hc;obtain⟨z,hz,_,hr⟩:=DataW.trod_int (show Tryz.prog.underlying 5=some (.int .u8)by kernel_rfl) ht;have fA:V i = .int .u8 z:=(by simpa using hz);have dA:0<=z/\z<256:=by
   have e1:IntKind.u8.min=0:=rfl;have e2:IntKind.u8.max=255:=rfl;simp[Lit.wf]at hr;omega
  exact⟨z,by rw[hc,fA],dA.1,dA.2⟩
theorem zNc{H:Type}{enc:TypeId×Value->H}{W:World}{aA:Nat->Bool}{held:Bool}{v:Value}{d:DataW H}{ps:List MemPlace}(hv:v.cells=#[v])(h:DataW.Trod enc Tryz.prog W 0 aA held 22 v d ps) :
  ∃a n c,v = .slice a n c/\n<=c/\n<=maxLen/\zJT W a n:=by
 obtain⟨bA,hf⟩:=h;exact zOV (by simpa[hv]using hf)
theorem zON(os:Os)(aA:os.Started)(H:Type)(enc:TypeId×Value->H) :
  ReturnsInHanded {} Tryz.checked os 3 .any (fun w args=>(Rows.fnBackSpec.pre enc Tryz.prog Tryz.f3 [] false w args/\laidMetH Tryz.prog zSD w)/\sizedMet enc Tryz.prog Tryz.f3 (OpenSpec.ofChange Rows.fnBackSpec) false w args)
   (Rows.fnBackSpec.post enc Tryz.prog Tryz.f3 false true false false):=by
 refine returnsInHanded_of_change_and (C:=Tryz.checked) (X:=fun w _=>laidMetH Tryz.prog zSD w) (fun _ _ _ hh h=>h.of_heap hh) zZn aA (by kernel_rfl) Tryz.func3
  (ChangeSpec.witness_at (enc:=enc) (C:=Tryz.checked) (os:=os) (X:=fun w _=>laidMetH Tryz.prog zSD w) false (zPS os) #[.slice none 0 0,.slice none 0 0] 8 rfl (by kernel_rfl) (by kernel_rfl) (by kernel_rfl) (by kernel_rfl) (by kernel_rfl) (zOT os _)) ?_
 intro W base args ds gs eA bA hW _ _ hL _;have cA:∀(j:Nat) t v,Tryz.f3.params[j]?=some t->args[j]?=some v->Value.okWide Tryz.prog W .any base t v:=bA;have kA:=hW;obtain⟨p,q,iA,jA,rfl,vA,cB⟩:=hW;have hA:DataW.TrodAll enc Tryz.prog W 0 (fun _=>true) true Tryz.f3.params.toList args.toList ds p:=iA;have hV:DataW.TrodVars enc Tryz.prog W (fun _=>true) (zLw.map errN) gs q:=jA;rw[Tryz.params3]at hA cA;obtain⟨v0,eB,d0,sA,p0,q0,fA,rfl,rfl,h0,r0⟩:=trodAll_cons hA;obtain⟨v1,fB,d1,tA,p1,q1,gA,rfl,rfl,h1,r1⟩:=trodAll_cons r0;obtain⟨rfl,rfl,rfl⟩:=trodAll_nil r1;obtain rfl:args=#[v0,v1]:=by cases args;simp_all
 obtain⟨pe,hE,dA⟩:=zQJ hL;obtain⟨rfl,rfl⟩:=hV.unique (zKh enc dA _ zLw (by decide));have k0:=h0;have k1:=h1;have pA:∀x∈p0,x.block<W.heap.size:=by obtain⟨m,hm⟩:=k0;exact DataW.trod_lt m _ _ _ hm
 have rA:∀x∈p1,x.block<W.heap.size:=by obtain⟨m,hm⟩:=k1;exact DataW.trod_lt m _ _ _ hm
 have o0:=cA 0 22 v0 rfl rfl;have o1:=cA 1 22 v1 rfl rfl;have s0:v0.cells=#[v0]:=by obtain⟨_,_,_,rfl⟩:=okWide_slice (e:=5) (by kernel_rfl) o0;rfl
 have s1:v1.cells=#[v1]:=by obtain⟨_,_,_,rfl⟩:=okWide_slice (e:=5) (by kernel_rfl) o1;rfl
 obtain⟨a0,n0,c0,rfl,nA,aB,lA⟩:=zNc s0 h0;obtain⟨a1,n1,c1,rfl,oA,bB,mA⟩:=zNc s1 h1;clear iA jA bA;refine(zRn a0 a1 n0 c0 n1 c1 W lA mA nA oA hE).mono fun e W' ⟨he,bel⟩=>?_
 subst he;exact⟨_,rfl,_,_,_,[],_,zLw.map (fun i=>.cell (zJs i) 0),kA,trodAll_mk1 (shut_bool Tryz.underlying4 _),(trodAll_cons_mk (Below.trod zVB (by kernel_rfl) (of_decide_eq_true (by kernel_rfl)) k0 bel pA) (trodAll_cons_mk (Below.trod zVB (by kernel_rfl) (of_decide_eq_true (by kernel_rfl)) k1 bel rA) trodAll_mk0)),zKh enc (fun i hi=>zUh (dA i hi) bel) _ zLw (by decide),bel.frame _,fun h=>by cases h⟩
theorem zTh:Rows.FnBackSaid:=
 OpenClaim.holds_of_wide 3 Tryz.f3 rfl rfl rfl rfl rfl rfl rfl ⟨rfl,rfl,rfl,rfl,rfl⟩ rfl rfl rfl rfl rfl (by kernel_rfl) Tryz.func3 (by kernel_rfl)
  (of_decide_eq_true (by kernel_rfl)) (by unfold Func.isWrapper;first | (rw[if_pos (by decide +kernel)];kernel_rfl) | (rw[if_neg (by decide +kernel)];exact⟨rfl,rfl⟩))
  (fun os aA H enc _=>zON os aA H enc)
theorem fnBack_holds:Rows.FnBackCardSaid:=
 Claim7.holds_tied_plain_at .later [] [.sentinel,.sentinel,.sentinel,.sentinel,.sentinel,.sentinel,.sentinel] true (true,Rows.fnBackCard.stood.harness.2) true
  zTh (fun _ h=>by cases h) (by kernel_rfl) (fun _ h=>by cases h) fnBack_row_tie rfl ⟨rfl,rfl⟩ (by kernel_rfl) rfl
  (fun f fn hf bA=>by
   obtain rfl:f=3:=Option.some.inj ((show Tryz.prog.funcNamed "loop.example/g00381/laws.FnBack" = some 3 by kernel_rfl).symm.trans hf) |>.symm;obtain rfl:fn=Tryz.f3:=(Option.some.inj (Tryz.func3.symm.trans bA)).symm;exact⟨by kernel_rfl,fun j t ht=>by
    rw[Tryz.params3]at ht;have hm:t∈[22,22]:=(by simpa using Array.mem_of_getElem? ht);have aA:([22,22].all fun u=>!Tryz.prog.wantsStandIn u)=true:=(by kernel_rfl);exact(show Tryz.prog.wantsStandIn t=false by simpa using List.all_eq_true.1 aA t hm)⟩)
  (by kernel_rfl)
end Go.Proofs.YtjganmlaooofoaaGreatDoor
