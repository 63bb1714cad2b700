/- For every argument that comes in the law FnExactSetWrite returns true: impl.SetWrite answers as spec.SetWrite, every field; it writes into no argument, and its answer owns its memory. The seven errors of the package are as its text lays them (the card ties them to it). -/
import Derived.Test.YtmgeglgboadfiaaGreatDoorV26
import Derived.Test.YtmgeglgboadfiaaGreatDoorV27
import Derived.Test.YtmgeglgboadfiaaGreatDoorTie
import Derived.Test.YtmgeglgboadfiaaGreatDoorCards
import Derived.SevenTiedAt
set_option linter.unusedVariables false
set_option maxRecDepth 20000
set_option maxHeartbeats 4000000
namespace Go.Proofs.YtmgeglgboadfiaaGreatDoor
open Go.ChangeShapes Go.WideShapes Go.ChangeAt Go.RowKit
open Go.ChangeMaps (open_string)
theorem own:ownKnob Tryz.prog.godebug=none:=by kernel_rfl
theorem zHT:laidOutB Tryz.prog=true:=by kernel_rfl
theorem zD0(os:Os)(bA:os.Started)(H:Type)(enc:TypeId×Value->H) :
  ReturnsInHanded {} Tryz.checked os 3 .any (fun w args=>(Rows.fnExactSetWriteSpec.pre enc Tryz.prog Tryz.f3 [] false w args/\laidMetH Tryz.prog zLw w)/\sizedMet enc Tryz.prog Tryz.f3 (OpenSpec.ofChange Rows.fnExactSetWriteSpec) false w args)
   (Rows.fnExactSetWriteSpec.post enc Tryz.prog Tryz.f3 false true false false):=by
 refine returnsInHanded_of_change_and (C:=Tryz.checked) (X:=fun w _=>laidMetH Tryz.prog zLw w) (fun _ _ _ hh h=>h.of_heap hh) own bA (by kernel_rfl) Tryz.func3
  (ChangeSpec.witness_at (enc:=enc) (C:=Tryz.checked) (os:=os) (X:=fun w _=>laidMetH Tryz.prog zLw w) false (zJT os) #[.agg #[.slice none 0 0,.slice none 0 0,.int .i64 0,.int .i64 0,.slice none 0 0,.slice none 0 0],.string ⟨#[]⟩,.int .i64 0,.string ⟨#[]⟩] 8 rfl (by kernel_rfl) (by kernel_rfl) (by kernel_rfl) (by kernel_rfl) (by kernel_rfl) (zIn os _)) ?_
 intro W base args ds gs iA cA hW _ _ hL _;have aA:∀(j:Nat) t v,Tryz.f3.params[j]?=some t->args[j]?=some v->Value.okWide Tryz.prog W .any base t v:=cA;have iB:=hW;obtain⟨p,q,lA,mA,rfl,pB,sB⟩:=hW;have hA:DataW.TrodAll enc Tryz.prog W 0 (fun _=>true) true Tryz.f3.params.toList args.toList ds p:=lA;have hV:DataW.TrodVars enc Tryz.prog W (fun _=>true) ["loop.example/g00381/impl.errNone", "loop.example/g00381/impl.errForm", "loop.example/g00381/impl.errSize", "loop.example/g00381/impl.errThere", "loop.example/g00381/impl.errFull", "loop.example/g00381/impl.errState", "loop.example/g00381/impl.errRange"] gs q:=mA;rw[Tryz.params3]at hA aA;obtain⟨v0,vB,d0,kB,p0,q0,fA,rfl,rfl,h0,r0⟩:=trodAll_cons hA;obtain⟨v1,nB,d1,lB,p1,q1,gA,rfl,rfl,h1,r1⟩:=trodAll_cons r0;obtain⟨v2,rB,d2,mB,p2,q2,eA,rfl,rfl,h2,r2⟩:=trodAll_cons r1;obtain⟨v3,tB,d3,oB,p3,q3,jA,rfl,rfl,h3,r3⟩:=trodAll_cons r2;obtain⟨rfl,rfl,rfl⟩:=trodAll_nil r3;obtain rfl:args=#[v0,v1,v2,v3]:=by cases args;simp_all
 obtain⟨pe,hE,dA⟩:=zK4 hL;obtain⟨rfl,rfl⟩:=hV.unique ((show DataW.TrodVars enc Tryz.prog W _ ["loop.example/g00381/impl.errNone", "loop.example/g00381/impl.errForm", "loop.example/g00381/impl.errSize", "loop.example/g00381/impl.errThere", "loop.example/g00381/impl.errFull", "loop.example/g00381/impl.errState", "loop.example/g00381/impl.errRange"] [tok enc (qK (pe 2)),tok enc (qK (pe 0)),tok enc (qK (pe 1)),tok enc (qK (pe 3)),tok enc (qK (pe 4)),tok enc (qK (pe 5)),tok enc (qK (pe 6))] [.cell (errG 2) 0,.cell (errG 0) 0,.cell (errG 1) 0,.cell (errG 3) 0,.cell (errG 4) 0,.cell (errG 5) 0,.cell (errG 6) 0] from zFO enc dA _ [2,0,1,3,4,5,6] (by decide)));have k0:=h0;have k1:=h1;have k2:=h2;have k3:=h3;have vA:∀x∈p0,x.block<W.heap.size:=by obtain⟨m,hm⟩:=k0;exact DataW.trod_lt m _ _ _ hm
 have fB:∀x∈p1,x.block<W.heap.size:=by obtain⟨m,hm⟩:=k1;exact DataW.trod_lt m _ _ _ hm
 have sA:∀x∈p2,x.block<W.heap.size:=by obtain⟨m,hm⟩:=k2;exact DataW.trod_lt m _ _ _ hm
 have cB:∀x∈p3,x.block<W.heap.size:=by obtain⟨m,hm⟩:=k3;exact DataW.trod_lt m _ _ _ hm
 obtain⟨nA,pA,eB,aB,dB,rfl,jB,kA⟩:=zMZ (aA 0 29 v0 rfl rfl) h0;obtain⟨rA,rfl,_,_,tA⟩:=open_string Tryz.underlying9 (aA 1 9 v1 rfl rfl) h1;obtain⟨z2,rfl,e2,_,oA⟩:=open_int Tryz.underlying2 (aA 2 2 v2 rfl rfl) h2;obtain⟨bB,rfl,_,_,gB⟩:=open_string Tryz.underlying9 (aA 3 9 v3 rfl rfl) h3;clear lA mA cA;refine(zER pe nA pA eB aB dB rA z2 bB W jB kA tA oA gB hE).mono fun e W' ⟨he,bel⟩=>?_
 subst he;exact⟨_,rfl,_,_,_,[],_,[.cell (errG 2) 0,.cell (errG 0) 0,.cell (errG 1) 0,.cell (errG 3) 0,.cell (errG 4) 0,.cell (errG 5) 0,.cell (errG 6) 0],iB,trodAll_mk1 (shut_bool Tryz.underlying4 _),(trodAll_cons_mk (Below.trod zHT (by kernel_rfl) (of_decide_eq_true (by kernel_rfl)) k0 bel vA) (trodAll_cons_mk (Below.trod zHT (by kernel_rfl) (of_decide_eq_true (by kernel_rfl)) k1 bel fB) (trodAll_cons_mk (Below.trod zHT (by kernel_rfl) (of_decide_eq_true (by kernel_rfl)) k2 bel sA) (trodAll_cons_mk (Below.trod zHT (by kernel_rfl) (of_decide_eq_true (by kernel_rfl)) k3 bel cB) trodAll_mk0)))),(show DataW.TrodVars enc Tryz.prog W' _ ["loop.example/g00381/impl.errNone", "loop.example/g00381/impl.errForm", "loop.example/g00381/impl.errSize", "loop.example/g00381/impl.errThere", "loop.example/g00381/impl.errFull", "loop.example/g00381/impl.errState", "loop.example/g00381/impl.errRange"] [tok enc (qK (pe 2)),tok enc (qK (pe 0)),tok enc (qK (pe 1)),tok enc (qK (pe 3)),tok enc (qK (pe 4)),tok enc (qK (pe 5)),tok enc (qK (pe 6))] [.cell (errG 2) 0,.cell (errG 0) 0,.cell (errG 1) 0,.cell (errG 3) 0,.cell (errG 4) 0,.cell (errG 5) 0,.cell (errG 6) 0] from zFO enc (fun i hi=>zM5 (dA i hi) bel) _ [2,0,1,3,4,5,6] (by decide)),bel.frame _,fun h=>by cases h⟩
theorem zE8:Rows.FnExactSetWriteSaid:=
 OpenClaim.holds_of_wide 3 Tryz.f3 rfl rfl rfl rfl rfl rfl rfl ⟨rfl,rfl,rfl,rfl,rfl⟩ rfl rfl rfl rfl rfl (by kernel_rfl) Tryz.func3 (by kernel_rfl)
  (of_decide_eq_true (by kernel_rfl)) (by unfold Func.isWrapper;first | (rw[if_pos (by decide +kernel)];kernel_rfl) | (rw[if_neg (by decide +kernel)];exact⟨rfl,rfl⟩))
  (fun os aA H enc _=>zD0 os aA H enc)
theorem fnExactSetWrite_holds:Rows.FnExactSetWriteCardSaid:=
 Claim7.holds_tied_plain_at .later [] [.sentinel,.sentinel,.sentinel,.sentinel,.sentinel,.sentinel,.sentinel] true (true,Rows.fnExactSetWriteCard.stood.harness.2) true
  zE8 (fun _ h=>by cases h) (by kernel_rfl) (fun _ h=>by cases h) fnExactSetWrite_row_tie rfl ⟨rfl,rfl⟩ (by kernel_rfl) rfl
  (fun f fn hf bA=>by
   obtain rfl:f=3:=Option.some.inj ((show Tryz.prog.funcNamed "loop.example/g00381/laws.FnExactSetWrite" = some 3 by kernel_rfl).symm.trans hf) |>.symm;obtain rfl:fn=Tryz.f3:=(Option.some.inj (Tryz.func3.symm.trans bA)).symm;exact⟨by kernel_rfl,fun j t ht=>by
    rw[Tryz.params3]at ht;have hm:t∈[29,9,2,9]:=(by simpa using Array.mem_of_getElem? ht);have aA:([29,9,2,9].all fun u=>!Tryz.prog.wantsStandIn u)=true:=(by kernel_rfl);exact(show Tryz.prog.wantsStandIn t=false by simpa using List.all_eq_true.1 aA t hm)⟩)
  (by kernel_rfl)
end Go.Proofs.YtmgeglgboadfiaaGreatDoor
