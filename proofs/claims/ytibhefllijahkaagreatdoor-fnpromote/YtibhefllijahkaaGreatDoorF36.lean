/- For every two texts of bytes that come in the law FnPromote returns true: a clone of a drawn right world that is promoted changes no page of anything, and the other one, promoted then, brings all back; a set that is new has nothing; the world stays right. -/
import Derived.Test.YtibhefllijahkaaGreatDoorF35
import Derived.Test.YtibhefllijahkaaGreatDoorTie
import Derived.Test.YtibhefllijahkaaGreatDoorCards
import Derived.Deep.Slices
import Derived.Lib.SmallJoins
import Derived.SevenTiedAt
set_option linter.unusedVariables false
set_option maxRecDepth 20000
set_option maxHeartbeats 4000000
namespace Go.Proofs.YtibhefllijahkaaGreatDoor
open Go.ChangeShapes Go.WideShapes Go.ChangeAt Go.RowKit Go.Deep Go.Joins
theorem zFi:ownKnob Tryz.prog.godebug=none:=by kernel_rfl
theorem Ta:laidOutB Tryz.prog=true:=by kernel_rfl
def Oh:List Nat:=[2,5,3,1,0,4,6]
variable{held:Bool}
theorem zCg{H:Type}{enc:TypeId×Value->H}{W:World}{g:Nat->Bool}{j:Nat}{v:Value}{x:DataW H×List MemPlace}(h:DataW.trod enc Tryz.prog W 0 g held j 22 [v]=some x) :
 ∃a n c,v = .slice a n c/\n<=c/\n<=maxLen/\Lz W a n:=by
 rcases open_slice1 (t:=22) (e:=5) (by kernel_rfl) (by kernel_rfl) h with⟨hv,_⟩ | ⟨a,len,cap,m,n,V,D,A,hv,_,r,F,l,_,q⟩
 ·exact⟨none,0,0,by simpa using hv,Nat.le_refl _,Nat.zero_le _,fun h=>absurd h (Nat.lt_irrefl _)⟩
 ·have s:len<=m:=(by rw[l];split<;>omega);refine⟨some a,len,cap,by simpa using hv,r,by omega,fun E=>?_⟩;have d:=(q 0 (by omega)).1;rw[show a.add 0=a by simp[Addr.add]]at d;obtain⟨b,off,spot⟩:=a;have hs:spot=none:=(by simpa using World.cell?_spot d);subst hs;refine⟨b,off,rfl,AZ d,fun i hi=>?_⟩;obtain⟨p,w⟩:=q i (by omega);rw[Addr.add_mid]at p;obtain⟨z,y,_,u⟩:=DataW.trod_int (show Tryz.prog.underlying 5=some (.int .u8)by kernel_rfl) w;have o:V i = .int .u8 z:=(by simpa using y);have k:0<=z/\z<256:=by
   have B:IntKind.u8.min=0:=rfl;have C:IntKind.u8.max=255:=rfl;simp[Lit.wf]at u;omega
  exact⟨z,by rw[p,o],k.1,k.2⟩
theorem Xx{H:Type}{enc:TypeId×Value->H}{W:World}{b:Nat->Bool}{v:Value}{d:DataW H}{ps:List MemPlace}(hv:v.cells=#[v])(h:DataW.Trod enc Tryz.prog W 0 b held 22 v d ps) :
 ∃a n c,v = .slice a n c/\n<=c/\n<=maxLen/\Lz W a n:=by
 obtain⟨e,g⟩:=h;exact zCg (by simpa[hv]using g)
theorem zDL(os:Os)(c:os.Started)(H:Type)(enc:TypeId×Value->H) :
 ReturnsInHanded {} Tryz.checked os 3 .any (fun w args=>(Rows.fnPromoteSpec.pre enc Tryz.prog Tryz.f3 [] false w args/\laidMetH Tryz.prog LX w)/\sizedMet enc Tryz.prog Tryz.f3 (OpenSpec.ofChange Rows.fnPromoteSpec) false w args)
  (Rows.fnPromoteSpec.post enc Tryz.prog Tryz.f3 false true false false):=by
 refine returnsInHanded_of_change_and (C:=Tryz.checked) (X:=fun w _=>laidMetH Tryz.prog LX w) (fun _ _ _ Z h=>h.of_heap Z) zFi c (by kernel_rfl) Tryz.func3
  (ChangeSpec.witness_at (enc:=enc) (C:=Tryz.checked) (os:=os) (X:=fun w _=>laidMetH Tryz.prog LX w) false (X3 os) #[.slice none 0 0,.slice none 0 0] 8 rfl (by kernel_rfl) (by kernel_rfl) (by kernel_rfl) (by kernel_rfl) (by kernel_rfl) (zCe os _)) ?_
 intro W base args O R l b J _ _ T _;have a:∀(j:Nat) t v,Tryz.f3.params[j]?=some t->args[j]?=some v->Value.okWide Tryz.prog W .any base t v:=b;have s:=J;obtain⟨p,q,g,k,rfl,Y,cA⟩:=J;have I:DataW.TrodAll enc Tryz.prog W 0 (fun _=>true) true Tryz.f3.params.toList args.toList O p:=g;have U:DataW.TrodVars enc Tryz.prog W (fun _=>true) (Oh.map errN) R q:=k;rw[Tryz.params3]at I a;obtain⟨r,kA,d0,P,p0,q0,n,rfl,rfl,F,r0⟩:=trodAll_cons I;obtain⟨v1,lA,d1,Q,p1,q1,o,rfl,rfl,G,r1⟩:=trodAll_cons r0;obtain⟨rfl,rfl,rfl⟩:=trodAll_nil r1;obtain rfl:args=#[r,v1]:=by cases args;simp_all
 obtain⟨pe,S,d⟩:=zCC T;obtain⟨rfl,rfl⟩:=U.unique (R4 enc d _ Oh (by decide));have K:=F;have L:=G;have D:∀x∈p0,x.block<W.heap.size:=by obtain⟨m,B⟩:=K;exact DataW.trod_lt m _ _ _ B
 have E:∀x∈p1,x.block<W.heap.size:=by obtain⟨m,B⟩:=L;exact DataW.trod_lt m _ _ _ B
 have o0:=a 0 22 r rfl rfl;have o1:=a 1 22 v1 rfl rfl;have s0:r.cells=#[r]:=by obtain⟨_,_,_,rfl⟩:=okWide_slice (e:=5) (by kernel_rfl) o0;rfl
 have s1:v1.cells=#[v1]:=by obtain⟨_,_,_,rfl⟩:=okWide_slice (e:=5) (by kernel_rfl) o1;rfl
 obtain⟨M,n0,c0,rfl,z,aA,u⟩:=Xx s0 F;obtain⟨N,n1,c1,rfl,A,bA,y⟩:=Xx s1 G;clear g k b;refine(zD6 M N n0 c0 n1 c1 W u y z A S).mono fun e W' ⟨V,bel⟩=>?_
 subst V;exact⟨_,rfl,_,_,_,[],_,Oh.map (fun i=>.cell (Er i) 0),s,trodAll_mk1 (shut_bool Tryz.underlying4 _),(trodAll_cons_mk (Below.trod Ta (by kernel_rfl) (of_decide_eq_true (by kernel_rfl)) K bel D) (trodAll_cons_mk (Below.trod Ta (by kernel_rfl) (of_decide_eq_true (by kernel_rfl)) L bel E) trodAll_mk0)),R4 enc (fun i hi=>zAI (d i hi) bel) _ Oh (by decide),bel.frame _,fun h=>by cases h⟩
theorem zCZ:Rows.FnPromoteSaid:=
 OpenClaim.holds_of_wide 3 Tryz.f3 rfl rfl rfl rfl rfl rfl rfl ⟨rfl,rfl,rfl,rfl,rfl⟩ rfl rfl rfl rfl rfl (by kernel_rfl) Tryz.func3 (by kernel_rfl)
  (of_decide_eq_true (by kernel_rfl)) (by unfold Func.isWrapper;first | (rw[if_pos (by decide +kernel)];kernel_rfl) | (rw[if_neg (by decide +kernel)];exact⟨rfl,rfl⟩))
  (fun os a H enc _=>zDL os a H enc)
theorem fnPromote_holds:Rows.FnPromoteCardSaid:=
 Claim7.holds_tied_plain_at .later [] [.sentinel,.sentinel,.sentinel,.sentinel,.sentinel,.sentinel,.sentinel] true (true,Rows.fnPromoteCard.stood.harness.2) true
  zCZ (fun _ h=>by cases h) (by kernel_rfl) (fun _ h=>by cases h) fnPromote_row_tie rfl ⟨rfl,rfl⟩ (by kernel_rfl) rfl
  (fun f fn d b=>by
   obtain rfl:f=3:=Option.some.inj ((show Tryz.prog.funcNamed "loop.example/g00381/laws.FnPromote" = some 3 by kernel_rfl).symm.trans d) |>.symm;obtain rfl:fn=Tryz.f3:=(Option.some.inj (Tryz.func3.symm.trans b)).symm;exact⟨by kernel_rfl,fun j t c=>by
    rw[Tryz.params3]at c;have e:t∈[22,22]:=(by simpa using Array.mem_of_getElem? c);have a:([22,22].all fun u=>!Tryz.prog.wantsStandIn u)=true:=(by kernel_rfl);exact(show Tryz.prog.wantsStandIn t=false by simpa using List.all_eq_true.1 a t e)⟩)
  (by kernel_rfl)
end Go.Proofs.YtibhefllijahkaaGreatDoor
