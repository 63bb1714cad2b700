/- For every argument that comes in the law FnExactSetWrite returns true: impl.SetWrite answers as spec.SetWrite, every field; it writes into no argument, and its answer owns its memory. The seven errors of the package are as its text lays them (the card ties them to it). -/
import Derived.Test.YtmgeglgboadfiaaGreatDoorV15
import Derived.Test.YtmgeglgboadfiaaGreatDoorV16
import Derived.Test.YtmgeglgboadfiaaGreatDoorTie
import Derived.Test.YtmgeglgboadfiaaGreatDoorCards
import Derived.SevenTiedAt
set_option linter.unusedVariables false
set_option maxRecDepth 20000
set_option maxHeartbeats 4000000
namespace Go.Proofs.YtmgeglgboadfiaaGreatDoor
open Go.ChangeShapes Go.WideShapes Go.ChangeAt Go.RowKit
open Go.ChangeMaps (open_string)
theorem own:ownKnob Tryz.prog.godebug=none:=by kernel_rfl
theorem zHa:laidOutB Tryz.prog=true:=by kernel_rfl
theorem zDw(os:Os)(bA:os.Started)(H:Type)(enc:TypeId×Value->H) :
  ReturnsInHanded {} Tryz.checked os 3 .any (fun w args=>(Rows.fnExactSetWriteSpec.pre enc Tryz.prog Tryz.f3 [] false w args/\laidMetH Tryz.prog zLl w)/\sizedMet enc Tryz.prog Tryz.f3 (OpenSpec.ofChange Rows.fnExactSetWriteSpec) false w args)
   (Rows.fnExactSetWriteSpec.post enc Tryz.prog Tryz.f3 false true false false):=by
 refine returnsInHanded_of_change_and (C:=Tryz.checked) (X:=fun w _=>laidMetH Tryz.prog zLl w) (fun _ _ _ hh h=>h.of_heap hh) own bA (by kernel_rfl) Tryz.func3
  (ChangeSpec.witness_at (enc:=enc) (C:=Tryz.checked) (os:=os) (X:=fun w _=>laidMetH Tryz.prog zLl w) false (zJw os) #[.agg #[.slice none 0 0,.slice none 0 0,.int .i64 0,.int .i64 0,.slice none 0 0,.slice none 0 0],.string ⟨#[]⟩,.int .i64 0,.string ⟨#[]⟩] 8 rfl (by kernel_rfl) (by kernel_rfl) (by kernel_rfl) (by kernel_rfl) (by kernel_rfl) (zI6 os _)) ?_
 intro W base args ds gs gA cA hW _ _ hL _;have aA:∀(j:Nat) t v,Tryz.f3.params[j]?=some t->args[j]?=some v->Value.okWide Tryz.prog W .any base t v:=cA;have jB:=hW;obtain⟨p,q,lA,mA,rfl,lB,kB⟩:=hW;have hA:DataW.TrodAll enc Tryz.prog W 0 (fun _=>true) true Tryz.f3.params.toList args.toList ds p:=lA;have hV:DataW.TrodVars enc Tryz.prog W (fun _=>true) ["loop.example/g00381/impl.errNone", "loop.example/g00381/impl.errForm", "loop.example/g00381/impl.errSize", "loop.example/g00381/impl.errThere", "loop.example/g00381/impl.errFull", "loop.example/g00381/impl.errState", "loop.example/g00381/impl.errRange"] gs q:=mA;rw[Tryz.params3]at hA aA;obtain⟨v0,rB,d0,tB,p0,q0,eA,rfl,rfl,h0,r0⟩:=trodAll_cons hA;obtain⟨v1,oB,d1,vB,p1,q1,fA,rfl,rfl,h1,r1⟩:=trodAll_cons r0;obtain⟨v2,mB,d2,nB,p2,q2,iA,rfl,rfl,h2,r2⟩:=trodAll_cons r1;obtain⟨v3,sB,d3,pB,p3,q3,kA,rfl,rfl,h3,r3⟩:=trodAll_cons r2;obtain⟨rfl,rfl,rfl⟩:=trodAll_nil r3;obtain rfl:args=#[v0,v1,v2,v3]:=by cases args;simp_all
 obtain⟨pe,hE,dA⟩:=zKi hL;obtain⟨rfl,rfl⟩:=hV.unique ((show DataW.TrodVars enc Tryz.prog W _ ["loop.example/g00381/impl.errNone", "loop.example/g00381/impl.errForm", "loop.example/g00381/impl.errSize", "loop.example/g00381/impl.errThere", "loop.example/g00381/impl.errFull", "loop.example/g00381/impl.errState", "loop.example/g00381/impl.errRange"] [tok enc (qM (pe 2)),tok enc (qM (pe 0)),tok enc (qM (pe 1)),tok enc (qM (pe 3)),tok enc (qM (pe 4)),tok enc (qM (pe 5)),tok enc (qM (pe 6))] [.cell (errG 2) 0,.cell (errG 0) 0,.cell (errG 1) 0,.cell (errG 3) 0,.cell (errG 4) 0,.cell (errG 5) 0,.cell (errG 6) 0] from zFQ enc dA _ [2,0,1,3,4,5,6] (by decide)));have k0:=h0;have k1:=h1;have k2:=h2;have k3:=h3;have iB:∀x∈p0,x.block<W.heap.size:=by obtain⟨m,hm⟩:=k0;exact DataW.trod_lt m _ _ _ hm
 have bB:∀x∈p1,x.block<W.heap.size:=by obtain⟨m,hm⟩:=k1;exact DataW.trod_lt m _ _ _ hm
 have gB:∀x∈p2,x.block<W.heap.size:=by obtain⟨m,hm⟩:=k2;exact DataW.trod_lt m _ _ _ hm
 have rA:∀x∈p3,x.block<W.heap.size:=by obtain⟨m,hm⟩:=k3;exact DataW.trod_lt m _ _ _ hm
 obtain⟨sA,eB,pA,vA,cB,rfl,fB,jA⟩:=zM6 (aA 0 29 v0 rfl rfl) h0;obtain⟨nA,rfl,_,_,aB⟩:=open_string Tryz.underlying9 (aA 1 9 v1 rfl rfl) h1;obtain⟨z2,rfl,e2,_,oA⟩:=open_int Tryz.underlying2 (aA 2 2 v2 rfl rfl) h2;obtain⟨dB,rfl,_,_,tA⟩:=open_string Tryz.underlying9 (aA 3 9 v3 rfl rfl) h3;clear lA mA cA;refine(zEf pe sA eB pA vA cB nA z2 dB W fB jA aB oA tA hE).mono fun e W' ⟨he,bel⟩=>?_
 subst he;exact⟨_,rfl,_,_,_,[],_,[.cell (errG 2) 0,.cell (errG 0) 0,.cell (errG 1) 0,.cell (errG 3) 0,.cell (errG 4) 0,.cell (errG 5) 0,.cell (errG 6) 0],jB,trodAll_mk1 (shut_bool Tryz.underlying4 _),(trodAll_cons_mk (Below.trod zHa (by kernel_rfl) (of_decide_eq_true (by kernel_rfl)) k0 bel iB) (trodAll_cons_mk (Below.trod zHa (by kernel_rfl) (of_decide_eq_true (by kernel_rfl)) k1 bel bB) (trodAll_cons_mk (Below.trod zHa (by kernel_rfl) (of_decide_eq_true (by kernel_rfl)) k2 bel gB) (trodAll_cons_mk (Below.trod zHa (by kernel_rfl) (of_decide_eq_true (by kernel_rfl)) k3 bel rA) trodAll_mk0)))),(show DataW.TrodVars enc Tryz.prog W' _ ["loop.example/g00381/impl.errNone", "loop.example/g00381/impl.errForm", "loop.example/g00381/impl.errSize", "loop.example/g00381/impl.errThere", "loop.example/g00381/impl.errFull", "loop.example/g00381/impl.errState", "loop.example/g00381/impl.errRange"] [tok enc (qM (pe 2)),tok enc (qM (pe 0)),tok enc (qM (pe 1)),tok enc (qM (pe 3)),tok enc (qM (pe 4)),tok enc (qM (pe 5)),tok enc (qM (pe 6))] [.cell (errG 2) 0,.cell (errG 0) 0,.cell (errG 1) 0,.cell (errG 3) 0,.cell (errG 4) 0,.cell (errG 5) 0,.cell (errG 6) 0] from zFQ enc (fun i hi=>zMr (dA i hi) bel) _ [2,0,1,3,4,5,6] (by decide)),bel.frame _,fun h=>by cases h⟩
theorem zE6:Rows.FnExactSetWriteSaid:=
 OpenClaim.holds_of_wide 3 Tryz.f3 rfl rfl rfl rfl rfl rfl rfl ⟨rfl,rfl,rfl,rfl,rfl⟩ rfl rfl rfl rfl rfl (by kernel_rfl) Tryz.func3 (by kernel_rfl)
  (of_decide_eq_true (by kernel_rfl)) (by unfold Func.isWrapper;first | (rw[if_pos (by decide +kernel)];kernel_rfl) | (rw[if_neg (by decide +kernel)];exact⟨rfl,rfl⟩))
  (fun os aA H enc _=>zDw os aA H enc)
theorem fnExactSetWrite_holds:Rows.FnExactSetWriteCardSaid:=
 Claim7.holds_tied_plain_at .later [] [.sentinel,.sentinel,.sentinel,.sentinel,.sentinel,.sentinel,.sentinel] true (true,Rows.fnExactSetWriteCard.stood.harness.2) true
  zE6 (fun _ h=>by cases h) (by kernel_rfl) (fun _ h=>by cases h) fnExactSetWrite_row_tie rfl ⟨rfl,rfl⟩ (by kernel_rfl) rfl
  (fun f fn hf bA=>by
   obtain rfl:f=3:=Option.some.inj ((show Tryz.prog.funcNamed "loop.example/g00381/laws.FnExactSetWrite" = some 3 by kernel_rfl).symm.trans hf) |>.symm;obtain rfl:fn=Tryz.f3:=(Option.some.inj (Tryz.func3.symm.trans bA)).symm;exact⟨by kernel_rfl,fun j t ht=>by
    rw[Tryz.params3]at ht;have hm:t∈[29,9,2,9]:=(by simpa using Array.mem_of_getElem? ht);have aA:([29,9,2,9].all fun u=>!Tryz.prog.wantsStandIn u)=true:=(by kernel_rfl);exact(show Tryz.prog.wantsStandIn t=false by simpa using List.all_eq_true.1 aA t hm)⟩)
  (by kernel_rfl)
end Go.Proofs.YtmgeglgboadfiaaGreatDoor
