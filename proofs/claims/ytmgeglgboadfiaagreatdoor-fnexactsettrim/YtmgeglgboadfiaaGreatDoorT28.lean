/- For every argument that comes in the law FnExactSetTrim returns true: impl.SetTrim answers as spec.SetTrim, every field; it writes into no argument, and its answer owns its memory. The seven errors of the package are as its text lays them (the card ties them to it). -/
import Derived.Test.YtmgeglgboadfiaaGreatDoorT26
import Derived.Test.YtmgeglgboadfiaaGreatDoorT27
import Derived.Test.YtmgeglgboadfiaaGreatDoorTie
import Derived.Test.YtmgeglgboadfiaaGreatDoorCards
import Derived.SevenTiedAt
set_option linter.unusedVariables false
set_option maxRecDepth 20000
set_option maxHeartbeats 4000000
namespace Go.Proofs.YtmgeglgboadfiaaGreatDoor
open Go.ChangeShapes Go.WideShapes Go.ChangeAt Go.RowKit
open Go.ChangeMaps (open_string)
theorem own:ownKnob Tryz.prog.godebug=none:=by kernel_rfl
theorem zKE:laidOutB Tryz.prog=true:=by kernel_rfl
theorem zDw(os:Os)(bA:os.Started)(H:Type)(enc:TypeId×Value->H) :
  ReturnsInHanded {} Tryz.checked os 4 .any (fun w args=>(Rows.fnExactSetTrimSpec.pre enc Tryz.prog Tryz.f4 [] false w args/\laidMetH Tryz.prog zLL w)/\sizedMet enc Tryz.prog Tryz.f4 (OpenSpec.ofChange Rows.fnExactSetTrimSpec) false w args)
   (Rows.fnExactSetTrimSpec.post enc Tryz.prog Tryz.f4 false true false false):=by
 refine returnsInHanded_of_change_and (C:=Tryz.checked) (X:=fun w _=>laidMetH Tryz.prog zLL w) (fun _ _ _ hh h=>h.of_heap hh) own bA (by kernel_rfl) Tryz.func4
  (ChangeSpec.witness_at (enc:=enc) (C:=Tryz.checked) (os:=os) (X:=fun w _=>laidMetH Tryz.prog zLL w) false (zJp os) #[.agg #[.slice none 0 0,.slice none 0 0,.int .i64 0,.int .i64 0,.slice none 0 0,.slice none 0 0],.string ⟨#[]⟩,.int .i64 0] 8 rfl (by kernel_rfl) (by kernel_rfl) (by kernel_rfl) (by kernel_rfl) (by kernel_rfl) (zIv os _)) ?_
 intro W base args ds gs gA cA hW _ _ hL _;have aA:∀(j:Nat) t v,Tryz.f4.params[j]?=some t->args[j]?=some v->Value.okWide Tryz.prog W .any base t v:=cA;have sA:=hW;obtain⟨p,q,kA,lA,rfl,iB,gB⟩:=hW;have hA:DataW.TrodAll enc Tryz.prog W 0 (fun _=>true) true Tryz.f4.params.toList args.toList ds p:=kA;have hV:DataW.TrodVars enc Tryz.prog W (fun _=>true) ["loop.example/g00381/impl.errNone", "loop.example/g00381/impl.errForm", "loop.example/g00381/impl.errSize", "loop.example/g00381/impl.errThere", "loop.example/g00381/impl.errFull", "loop.example/g00381/impl.errState", "loop.example/g00381/impl.errRange"] gs q:=lA;rw[Tryz.params4]at hA aA;obtain⟨v0,mB,d0,fB,p0,q0,iA,rfl,rfl,h0,r0⟩:=trodAll_cons hA;obtain⟨v1,nB,d1,jB,p1,q1,jA,rfl,rfl,h1,r1⟩:=trodAll_cons r0;obtain⟨v2,kB,d2,lB,p2,q2,eA,rfl,rfl,h2,r2⟩:=trodAll_cons r1;obtain⟨rfl,rfl,rfl⟩:=trodAll_nil r2;obtain rfl:args=#[v0,v1,v2]:=by cases args;simp_all
 obtain⟨pe,hE,dA⟩:=zKT hL;obtain⟨rfl,rfl⟩:=hV.unique ((show DataW.TrodVars enc Tryz.prog W _ ["loop.example/g00381/impl.errNone", "loop.example/g00381/impl.errForm", "loop.example/g00381/impl.errSize", "loop.example/g00381/impl.errThere", "loop.example/g00381/impl.errFull", "loop.example/g00381/impl.errState", "loop.example/g00381/impl.errRange"] [tok enc (qO (pe 2)),tok enc (qO (pe 0)),tok enc (qO (pe 1)),tok enc (qO (pe 3)),tok enc (qO (pe 4)),tok enc (qO (pe 5)),tok enc (qO (pe 6))] [.cell (errG 2) 0,.cell (errG 0) 0,.cell (errG 1) 0,.cell (errG 3) 0,.cell (errG 4) 0,.cell (errG 5) 0,.cell (errG 6) 0] from zFJ enc dA _ [2,0,1,3,4,5,6] (by decide)));have k0:=h0;have k1:=h1;have k2:=h2;have aB:∀x∈p0,x.block<W.heap.size:=by obtain⟨m,hm⟩:=k0;exact DataW.trod_lt m _ _ _ hm
 have pA:∀x∈p1,x.block<W.heap.size:=by obtain⟨m,hm⟩:=k1;exact DataW.trod_lt m _ _ _ hm
 have eB:∀x∈p2,x.block<W.heap.size:=by obtain⟨m,hm⟩:=k2;exact DataW.trod_lt m _ _ _ hm
 obtain⟨dB,nA,oA,tA,cB,rfl,bB,fA⟩:=zMS (aA 0 29 v0 rfl rfl) h0;obtain⟨vA,rfl,_,_,rA⟩:=open_string Tryz.underlying9 (aA 1 9 v1 rfl rfl) h1;obtain⟨z2,rfl,e2,_,mA⟩:=open_int Tryz.underlying2 (aA 2 2 v2 rfl rfl) h2;clear kA lA cA;refine(zEs pe dB nA oA tA cB vA z2 W bB fA rA mA hE).mono fun e W' ⟨he,bel⟩=>?_
 subst he;exact⟨_,rfl,_,_,_,[],_,[.cell (errG 2) 0,.cell (errG 0) 0,.cell (errG 1) 0,.cell (errG 3) 0,.cell (errG 4) 0,.cell (errG 5) 0,.cell (errG 6) 0],sA,trodAll_mk1 (shut_bool Tryz.underlying4 _),(trodAll_cons_mk (Below.trod zKE (by kernel_rfl) (of_decide_eq_true (by kernel_rfl)) k0 bel aB) (trodAll_cons_mk (Below.trod zKE (by kernel_rfl) (of_decide_eq_true (by kernel_rfl)) k1 bel pA) (trodAll_cons_mk (Below.trod zKE (by kernel_rfl) (of_decide_eq_true (by kernel_rfl)) k2 bel eB) trodAll_mk0))),(show DataW.TrodVars enc Tryz.prog W' _ ["loop.example/g00381/impl.errNone", "loop.example/g00381/impl.errForm", "loop.example/g00381/impl.errSize", "loop.example/g00381/impl.errThere", "loop.example/g00381/impl.errFull", "loop.example/g00381/impl.errState", "loop.example/g00381/impl.errRange"] [tok enc (qO (pe 2)),tok enc (qO (pe 0)),tok enc (qO (pe 1)),tok enc (qO (pe 3)),tok enc (qO (pe 4)),tok enc (qO (pe 5)),tok enc (qO (pe 6))] [.cell (errG 2) 0,.cell (errG 0) 0,.cell (errG 1) 0,.cell (errG 3) 0,.cell (errG 4) 0,.cell (errG 5) 0,.cell (errG 6) 0] from zFJ enc (fun i hi=>zMx (dA i hi) bel) _ [2,0,1,3,4,5,6] (by decide)),bel.frame _,fun h=>by cases h⟩
theorem zFK:Rows.FnExactSetTrimSaid:=
 OpenClaim.holds_of_wide 4 Tryz.f4 rfl rfl rfl rfl rfl rfl rfl ⟨rfl,rfl,rfl,rfl,rfl⟩ rfl rfl rfl rfl rfl (by kernel_rfl) Tryz.func4 (by kernel_rfl)
  (of_decide_eq_true (by kernel_rfl)) (by unfold Func.isWrapper;first | (rw[if_pos (by decide +kernel)];kernel_rfl) | (rw[if_neg (by decide +kernel)];exact⟨rfl,rfl⟩))
  (fun os aA H enc _=>zDw os aA H enc)
theorem fnExactSetTrim_holds:Rows.FnExactSetTrimCardSaid:=
 Claim7.holds_tied_plain_at .later [] [.sentinel,.sentinel,.sentinel,.sentinel,.sentinel,.sentinel,.sentinel] true (true,Rows.fnExactSetTrimCard.stood.harness.2) true
  zFK (fun _ h=>by cases h) (by kernel_rfl) (fun _ h=>by cases h) fnExactSetTrim_row_tie rfl ⟨rfl,rfl⟩ (by kernel_rfl) rfl
  (fun f fn hf bA=>by
   obtain rfl:f=4:=Option.some.inj ((show Tryz.prog.funcNamed "loop.example/g00381/laws.FnExactSetTrim" = some 4 by kernel_rfl).symm.trans hf) |>.symm;obtain rfl:fn=Tryz.f4:=(Option.some.inj (Tryz.func4.symm.trans bA)).symm;exact⟨by kernel_rfl,fun j t ht=>by
    rw[Tryz.params4]at ht;have hm:t∈[29,9,2]:=(by simpa using Array.mem_of_getElem? ht);have aA:([29,9,2].all fun u=>!Tryz.prog.wantsStandIn u)=true:=(by kernel_rfl);exact(show Tryz.prog.wantsStandIn t=false by simpa using List.all_eq_true.1 aA t hm)⟩)
  (by kernel_rfl)
end Go.Proofs.YtmgeglgboadfiaaGreatDoor
