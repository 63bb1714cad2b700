/- For every two texts of bytes that come in the law FnCrash returns true: a crash of a drawn store leaves just what was synced, and one that is synced keeps over a crash all that is live; impl answers as spec. The seven errors of the package are as its text lays them (the card ties them to it). -/
import Derived.Test.YtbplmbafodlboaaGreatDoorC32
import Derived.Test.YtbplmbafodlboaaGreatDoorTie
import Derived.Test.YtbplmbafodlboaaGreatDoorCards
import Derived.Deep.Slices
import Derived.Lib.SmallJoins
import Derived.SevenTiedAt
set_option linter.unusedVariables false
set_option maxRecDepth 20000
set_option maxHeartbeats 4000000
namespace Go.Proofs.YtbplmbafodlboaaGreatDoor
open Go.ChangeShapes Go.WideShapes Go.ChangeAt Go.RowKit Go.Deep Go.Joins
theorem zYQ:ownKnob Tryz.prog.godebug=none:=by kernel_rfl
theorem zT6:laidOutB Tryz.prog=true:=by kernel_rfl
theorem zNl{H:Type}{enc:TypeId×Value->H}{W:World}{aA:Nat->Bool}{held:Bool}{bA:Nat}{v:Value}{x:DataW H×List MemPlace}(h:DataW.trod enc Tryz.prog W 0 aA held bA 22 [v]=some x) :
  ∃a n c,v = .slice a n c/\n<=c/\n<=maxLen/\zIv W a n:=by
 rcases open_slice1 (t:=22) (e:=5) (by kernel_rfl) (by kernel_rfl) h with⟨hv,_⟩ | ⟨a,len,cap,m,n,V,D,Pl,hv,_,hl,hm,eA,_,hx⟩
 ·exact⟨none,0,0,by simpa using hv,Nat.le_refl _,Nat.zero_le _,fun h=>absurd h (Nat.lt_irrefl _)⟩
 ·have gA:len<=m:=(by rw[eA];split<;>omega);refine⟨some a,len,cap,by simpa using hv,hl,by omega,fun h0=>?_⟩;have cA:=(hx 0 (by omega)).1;rw[show a.add 0=a by simp[Addr.add]]at cA;obtain⟨b,off,spot⟩:=a;have hs:spot=none:=(by simpa using World.cell?_spot cA);subst hs;refine⟨b,off,rfl,zH cA,fun i hi=>?_⟩;obtain⟨hc,ht⟩:=hx i (by omega);rw[Addr.add_mid]at hc;obtain⟨z,hz,_,hr⟩:=DataW.trod_int (show Tryz.prog.underlying 5=some (.int .u8)by kernel_rfl) ht;have fA:V i = .int .u8 z:=(by simpa using hz);have dA:0<=z/\z<256:=by
   have e1:IntKind.u8.min=0:=rfl;have e2:IntKind.u8.max=255:=rfl;simp[Lit.wf]at hr;omega
  exact⟨z,by rw[hc,fA],dA.1,dA.2⟩
theorem zM0{H:Type}{enc:TypeId×Value->H}{W:World}{aA:Nat->Bool}{held:Bool}{v:Value}{d:DataW H}{ps:List MemPlace}(hv:v.cells=#[v])(h:DataW.Trod enc Tryz.prog W 0 aA held 22 v d ps) :
  ∃a n c,v = .slice a n c/\n<=c/\n<=maxLen/\zIv W a n:=by
 obtain⟨bA,hf⟩:=h;exact zNl (by simpa[hv]using hf)
theorem zL5(os:Os)(aA:os.Started)(H:Type)(enc:TypeId×Value->H) :
  ReturnsInHanded {} Tryz.checked os 3 .any (fun w args=>(Rows.fnCrashSpec.pre enc Tryz.prog Tryz.f3 [] false w args/\laidMetH Tryz.prog zRA w)/\sizedMet enc Tryz.prog Tryz.f3 (OpenSpec.ofChange Rows.fnCrashSpec) false w args)
   (Rows.fnCrashSpec.post enc Tryz.prog Tryz.f3 false true false false):=by
 refine returnsInHanded_of_change_and (C:=Tryz.checked) (X:=fun w _=>laidMetH Tryz.prog zRA w) (fun _ _ _ hh h=>h.of_heap hh) zYQ aA (by kernel_rfl) Tryz.func3
  (ChangeSpec.witness_at (enc:=enc) (C:=Tryz.checked) (os:=os) (X:=fun w _=>laidMetH Tryz.prog zRA w) false (zOW os) #[.slice none 0 0,.slice none 0 0] 8 rfl (by kernel_rfl) (by kernel_rfl) (by kernel_rfl) (by kernel_rfl) (by kernel_rfl) (zNj os _)) ?_
 intro W base args ds gs eA bA hW _ _ hL _;have cA:∀(j:Nat) t v,Tryz.f3.params[j]?=some t->args[j]?=some v->Value.okWide Tryz.prog W .any base t v:=bA;have kA:=hW;obtain⟨p,q,iA,jA,rfl,vA,cB⟩:=hW;have hA:DataW.TrodAll enc Tryz.prog W 0 (fun _=>true) true Tryz.f3.params.toList args.toList ds p:=iA;have hV:DataW.TrodVars enc Tryz.prog W (fun _=>true) ["loop.example/g00381/impl.errForm", "loop.example/g00381/impl.errSize", "loop.example/g00381/impl.errNone", "loop.example/g00381/impl.errThere", "loop.example/g00381/impl.errFull", "loop.example/g00381/impl.errState", "loop.example/g00381/impl.errRange"] gs q:=jA;rw[Tryz.params3]at hA cA;obtain⟨v0,eB,d0,sA,p0,q0,fA,rfl,rfl,h0,r0⟩:=trodAll_cons hA;obtain⟨v1,fB,d1,tA,p1,q1,gA,rfl,rfl,h1,r1⟩:=trodAll_cons r0;obtain⟨rfl,rfl,rfl⟩:=trodAll_nil r1;obtain rfl:args=#[v0,v1]:=by cases args;simp_all
 obtain⟨pe,hE,dA⟩:=zPI hL;obtain⟨rfl,rfl⟩:=hV.unique (zOC enc dA _);have k0:=h0;have k1:=h1;have pA:∀x∈p0,x.block<W.heap.size:=by obtain⟨m,hm⟩:=k0;exact DataW.trod_lt m _ _ _ hm
 have rA:∀x∈p1,x.block<W.heap.size:=by obtain⟨m,hm⟩:=k1;exact DataW.trod_lt m _ _ _ hm
 have o0:=cA 0 22 v0 rfl rfl;have o1:=cA 1 22 v1 rfl rfl;have s0:v0.cells=#[v0]:=by obtain⟨_,_,_,rfl⟩:=okWide_slice (e:=5) (by kernel_rfl) o0;rfl
 have s1:v1.cells=#[v1]:=by obtain⟨_,_,_,rfl⟩:=okWide_slice (e:=5) (by kernel_rfl) o1;rfl
 obtain⟨a0,n0,c0,rfl,nA,aB,lA⟩:=zM0 s0 h0;obtain⟨a1,n1,c1,rfl,oA,bB,mA⟩:=zM0 s1 h1;clear iA jA bA;refine(zPM a0 a1 n0 c0 n1 c1 W lA mA nA oA hE).mono fun e W' ⟨he,bel⟩=>?_
 subst he;exact⟨_,rfl,_,_,_,[],_,[.cell (zBf 0) 0,.cell (zBf 1) 0,.cell (zBf 2) 0,.cell (zBf 3) 0,.cell (zBf 4) 0,.cell (zBf 5) 0,.cell (zBf 6) 0],kA,trodAll_mk1 (shut_bool Tryz.underlying4 _),(trodAll_cons_mk (Below.trod zT6 (by kernel_rfl) (of_decide_eq_true (by kernel_rfl)) k0 bel pA) (trodAll_cons_mk (Below.trod zT6 (by kernel_rfl) (of_decide_eq_true (by kernel_rfl)) k1 bel rA) trodAll_mk0)),zOC enc (fun i hi=>zTZ (dA i hi) bel) _,bel.frame _,fun h=>by cases h⟩
theorem zQm:Rows.FnCrashSaid:=
 OpenClaim.holds_of_wide 3 Tryz.f3 rfl rfl rfl rfl rfl rfl rfl ⟨rfl,rfl,rfl,rfl,rfl⟩ rfl rfl rfl rfl rfl (by kernel_rfl) Tryz.func3 (by kernel_rfl)
  (of_decide_eq_true (by kernel_rfl)) (by unfold Func.isWrapper;first | (rw[if_pos (by decide +kernel)];kernel_rfl) | (rw[if_neg (by decide +kernel)];exact⟨rfl,rfl⟩))
  (fun os aA H enc _=>zL5 os aA H enc)
theorem fnCrash_holds:Rows.FnCrashCardSaid:=
 Claim7.holds_tied_plain_at .later [] [.sentinel,.sentinel,.sentinel,.sentinel,.sentinel,.sentinel,.sentinel] true (true,Rows.fnCrashCard.stood.harness.2) true
  zQm (fun _ h=>by cases h) (by kernel_rfl) (fun _ h=>by cases h) fnCrash_row_tie rfl ⟨rfl,rfl⟩ (by kernel_rfl) rfl
  (fun f fn hf bA=>by
   obtain rfl:f=3:=Option.some.inj ((show Tryz.prog.funcNamed "loop.example/g00381/laws.FnCrash" = some 3 by kernel_rfl).symm.trans hf) |>.symm;obtain rfl:fn=Tryz.f3:=(Option.some.inj (Tryz.func3.symm.trans bA)).symm;exact⟨by kernel_rfl,fun j t ht=>by
    rw[Tryz.params3]at ht;have hm:t∈[22,22]:=(by simpa using Array.mem_of_getElem? ht);have aA:([22,22].all fun u=>!Tryz.prog.wantsStandIn u)=true:=(by kernel_rfl);exact(show Tryz.prog.wantsStandIn t=false by simpa using List.all_eq_true.1 aA t hm)⟩)
  (by kernel_rfl)
end Go.Proofs.YtbplmbafodlboaaGreatDoor
