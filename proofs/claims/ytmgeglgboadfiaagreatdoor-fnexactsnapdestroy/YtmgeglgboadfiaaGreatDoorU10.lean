/- A part of the proof. -/
import Derived.Test.YtmgeglgboadfiaaGreatDoorU9
import Derived.Deep.LoopGhost
import Derived.Shelf.Abstract
set_option linter.unusedVariables false
set_option maxRecDepth 20000
set_option maxHeartbeats 4000000
namespace Go.Proofs.YtmgeglgboadfiaaGreatDoor
open Go.RowKit Go.Maps
theorem zHL (W : zE) (m : zDH) : (yA W m).length <= 73 := by
  unfold yA zAB yP;exact Nat.le_trans (List.length_filter_le _ _) (qK _ _ _)
theorem zH8 (W : zE) : ∀ k, (zo W k).length <= 73 * k
  | 0 => by simp[zo]
  | k + 1 => by
    have h1 := zH8 W k;have h2 := zHL W (zJ W k);unfold zo;rw[List.length_append];omega
theorem zH9 (W : zE) {k : Nat} : ∀ {n : Nat}, k <= n -> ∃ l, zo W n = zo W k ++ l
  | 0, h => ⟨[], by obtain rfl : k = 0 := by omega
                    simp⟩
  | n + 1, h => by
    by_cases e : k = n + 1
    · subst e;exact ⟨[], by simp⟩
    · obtain ⟨l, hl⟩ := zH9 W (k := k) (n := n) (by omega)
      exact ⟨l ++ yA W (zJ W n), by rw[show zo W (n + 1) = zo W n ++ yA W (zJ W n) from rfl, hl, List.append_assoc]⟩
theorem zNE (W : zE) {k n j : Nat} (hk : k < n) (hj : j < (yA W (zJ W k)).length) : (zo W k).length + j < (zo W n).length /\ (zo W n).getD ((zo W k).length + j) (0, 0) = (yA W (zJ W k)).getD j (0, 0) := by
  obtain ⟨l, hl⟩ := zH9 W (k := k + 1) (n := n) (by omega);rw[hl, show zo W (k + 1) = zo W k ++ yA W (zJ W k) from rfl];constructor
  · simp only[List.length_append];omega
  · rw[List.getD_eq_getElem?_getD, List.getD_eq_getElem?_getD, List.append_assoc, List.getElem?_append_right (by omega), show (zo W k).length + j - (zo W k).length = j by omega, List.getElem?_append_left hj]
def zKC (x : Int × Int) : Value := .agg #[.int .i64 x.1, .int .i64 x.2]
/-- The keys of the homes, one behind the other. -/
structure yT (W : zE) (key : Nat -> Lit) : Prop where
  ok : zCl key
  at_ : ∀ i, i < (zo W (zm W)).length -> keyOf Tryz.prog 61 (zKC ((zo W (zm W)).getD i (0, 0))) = some (key i)
theorem zIr {W : zE} (hR : qB W.zPE) (hT : ∀ i, i < zm W -> zz W.zPE (zJ W i).rs (zJ W i).rb) {x : Int × Int} (hx : x ∈ zo W (zm W)) : zx W.zPE x.1 x.2 := by
  obtain ⟨i, hi, h⟩ := zCf.1 hx;unfold yA zAB yP at h;exact (zAF hR (hT i hi) (List.mem_filter.1 h).1).1
theorem zNC {l : List (Int × Int)} {i : Nat} (h : i < l.length) : l.getD i (0, 0) ∈ l := by
  rw[List.getD_eq_getElem?_getD, List.getElem?_eq_getElem h, Option.getD_some];exact List.getElem_mem h
theorem zMM {W : zE} (hR : qB W.zPE) (hT : ∀ i, i < zm W -> zz W.zPE (zJ W i).rs (zJ W i).rb) : ∃ key, yT W key := by
  have aA : ∀ i, ∃ l, WideAt.IsKeyLit l /\ (i < (zo W (zm W)).length -> keyOf Tryz.prog 61 (zKC ((zo W (zm W)).getD i (0, 0))) = some l) := fun i => by
    by_cases bA : i < (zo W (zm W)).length
    · have hp := zIr hR hT (zNC bA)
      generalize (zo W (zm W)).getD i (0, 0) = x at hp ⊢;have hf := (qp hR hp).1;have cA := hR.1;obtain ⟨h1, h2, h3, h4⟩ := hp;rw[h4]at hf;obtain ⟨f1, f2⟩ := hf;obtain ⟨l, hl⟩ := zN4 (x := x.1) (y := x.2) (WalkArith.wf_i64 (by omega)) (WalkArith.wf_i64 (by omega));exact ⟨l, zOc.key hl, fun _ => hl⟩
    · exact ⟨.string [], trivial, fun h => absurd h bA⟩
  exact ⟨fun i => (aA i).choose, fun i => (aA i).choose_spec.1, fun i => (aA i).choose_spec.2⟩
theorem zMb {x y : Int × Int} (h : zKC x = zKC y) : x = y := by
  unfold zKC at h;simp only[Value.agg.injEq, Array.mk.injEq, List.cons.injEq, Value.int.injEq, true_and, and_true]at h;exact Prod.ext h.1 h.2
theorem yT.same {W : zE} {key : Nat -> Lit} (h : yT W key) {i j : Nat} (hi : i < (zo W (zm W)).length) (hj : j < (zo W (zm W)).length) : key i = key j ↔ (zo W (zm W)).getD i (0, 0) = (zo W (zm W)).getD j (0, 0) := by
  have h1 := h.at_ i hi;have h2 := h.at_ j hj;constructor
  · intro e
    rw[e]at h1;exact zMb (zOc.inj h1 h2)
  · intro e
    rw[e, h2]at h1;exact (Option.some.inj h1).symm
theorem yT.dist {W : zE} {key : Nat -> Lit} (h : yT W key) : zEc (zo W (zm W)).length key ↔ (zo W (zm W)).Nodup := by
  rw[List.Nodup, List.pairwise_iff_getElem];have hg : ∀ i (hi : i < (zo W (zm W)).length), (zo W (zm W)).getD i (0, 0) = (zo W (zm W))[i] := fun i hi => by rw[List.getD_eq_getElem?_getD, List.getElem?_eq_getElem hi, Option.getD_some]
  constructor
  · intro hd i j hi hj aA e
    refine hd j hj i aA ((h.same hi hj).2 ?_);rw[hg i hi, hg j hj];exact e
  · intro hd i hi k hk e
    have := (h.same (by omega) hi).1 e;rw[hg k (by omega), hg i hi]at this;exact hd k i (by omega) hi hk this
/-- The map behind the first p homes. -/
def zH6 (key : Nat -> Lit) (p : Nat) : DataW Value := putD key (fun _ => .int .i64 1) p
theorem yT.new {W : zE} {key : Nat -> Lit} {p : Nat} (hn : ∀ i, i < p -> key i ≠ key p) (h : yT W key) : (zH6 key p).atKey (key p) (.held (.int .i64 0)) = .held (.int .i64 0) := zFa h.ok _ hn _
theorem yT.old {W : zE} {key : Nat -> Lit} {p i : Nat} (hi : i < p) (he : key i = key p) (hd : zEc p key) (h : yT W key) : (zH6 key p).atKey (key p) (.held (.int .i64 0)) = .held (.int .i64 1) := by
  rw[<- he];exact zGF h.ok _ _ p i hi (fun j h1 h2 e => hd j h2 i h1 e.symm)
theorem yT.put {W : zE} {key : Nat -> Lit} (h : yT W key) (p : Nat) (v : Value) : ((zH6 key p).put (key p) (.held v)).atKey (key p) (.held (.int .i64 0)) = .held v := atKey_put_same (zBi h.ok _ p).isMap (h.ok p) _ _
theorem yT.not_nodup {W : zE} {key : Nat -> Lit} {p i : Nat} (hi : i < p) (hp : p < (zo W (zm W)).length) (he : key i = key p) (h : yT W key) : ¬ (zo W (zm W)).Nodup := fun hn => h.dist.2 hn p hp i hi he
theorem yT.size {W : zE} {key : Nat -> Lit} (h : yT W key) {p : Nat} (hd : zEc p key) : Maps.size (zH6 key p) = p := (zFb h.ok _ p).2.2 hd
theorem zFU(v0 v1:Value)(lo hi:Nat)(p:zN)(w:World)(h1:qS w lo hi v0 v1 p) :
  Calls Tryz.prog 227 #[.agg #[v0,v1]] w fun e w'=>e = .returned (.int .i64 (zL1 p))/\Below w.heap.size w w':=by
 have Hp:Hid (qS w lo hi v0 v1 p):=h1;obtain⟨⟨m1,a,c,rfl,mc,g1⟩,⟨m2,a',c',rfl,kA,g2⟩⟩:=h1;unfold maxLen at m1 m2;clear g1 g2;have ha:=zC w (.cells #[.slice a p.n c,.slice a' p.hn c'] 33);go_enter Tryz.func227,Tryz.ntmps227;go_wp2_with fail;refine(zA0 _ _ lo hi p _ (Hp.out.zO9 ha)).mono ?_;rintro e w1 ⟨⟨t,rfl,ht⟩,aA⟩;have Hx:Hid (zp w1 w.heap.size (.slice a p.n c) (.slice a' p.hn c')):=(zp.new w _ _ _).zO9 aA;have cA:=zA ha aA;clear ha aA;by_cases hR:qB p
 ·obtain rfl:t=true:=ht.2 hR;have HR:Hid (qB p):=hR;have eA:(p.n:Int)<=200:=(by have:=hR.1;omega);clear ht hR;obtain⟨⟨y0,y1⟩,⟨y2,y3⟩⟩:=Hx.out;have fA:Hid (zL1 p=(roomN p.s p.n:Int)):=if_pos HR.out;have HB:Hid (Below w.heap.size w w1):=cA;go_wp2;clear y0 y1 y2 y3 cA
  go_loopw [3,12] (fun m i wr=>∃k:Nat,k<=p.n/\i = .int .i64 k/\m = .int .i64 (roomN p.s k:Int)/\Below w.heap.size w wr) (fun _ i _=>p.n - (intOf i).toNat)
  case atStart=>exact⟨0,Nat.zero_le _,rfl,rfl,HB.out⟩
  case round=>
   obtain⟨k,hk,rfl,rfl,hb⟩:=hrel;have jA:=zGv p.s k;by_cases gA:k<p.n
   ·have iA:(k:Int)<(p.n:Int):=(by omega);obtain⟨b,off,ka,kc,rfl,hs⟩:=(Hp.out.1.zO9 hb).cells gA;have Hs:Hid (zAU wr b (off+k*3) lo hi ka kc (p.s k)):=hs;obtain⟨q0,q1,q2,_⟩:=hs;go_wp2_with fail;have bA:=zC wr (.cells #[.int .i64 (p.s k).zPI,.slice ka (p.s k).kn kc,.string (p.s k).data] 127);refine(zCw _ _ _ lo hi (p.s k) _ (Hs.out.slot.zO9 bA)).mono ?_;rintro e w2 ⟨⟨t,rfl,ht⟩,aA⟩;have dA:=zA hb (zA bA aA);clear aA q0 q1 q2 Hs bA;by_cases hf:ql (p.s k)
    ·obtain rfl:t=true:=ht.2 hf;have HF:Hid (ql (p.s k)):=hf;clear ht hf;go_wp2;go_roundw
     case rel=>exact⟨k+1,by omega,by go_num,congrArg (Value.int .i64) (by rw[zIK HF.out];omega),dA⟩
     case measure=>simp[intOf];omega
    ·obtain rfl:t=false:=zW ht hf;have HF:Hid (¬ql (p.s k)):=hf;clear ht hf;go_wp2;go_roundw
     case rel=>exact⟨k+1,by omega,by go_num,congrArg (Value.int .i64) (by rw[zKF HF.out]),dA⟩
     case measure=>simp[intOf];omega
   ·obtain rfl:k=p.n:=(by omega);go_wp2;go_ret;exact⟨by rw[fA.out];rfl,hb⟩
 ·obtain rfl:t=false:=zW ht hR;have HR:Hid (¬qB p):=hR;clear ht hR;go_wp2;go_ret;refine⟨?_,cA⟩;have e:zL1 p=0:=if_neg HR.out;rw[e];rfl
theorem zBA{P:Program}{k:TypeId}{w w1:World}{M n g o:Nat}{D:DataW Value}{v:Value}(hg:w.grownBy w1 (some M))(hm:w.ownsMap P k zBV M n D)(h:w.cell? ⟨g,o,none⟩=some v):w1.cell? ⟨g,o,none⟩=some v:=by
 refine(hg.cell_far ⟨g,o,none⟩ (zD h) ?_).trans h;intro e;simp only[Option.some.injEq]at e;subst e;obtain⟨es,aA,hb,-⟩:=hm;simp[World.cell?,hb]at h
theorem zBC{w w1 w2:World}{row:Option Nat}(h:w.grownBy w1 row)(k:w1.grownBy w2 row):w.grownBy w2 row:=
 ⟨k.os.trans h.os,k.tape.trans h.tape,k.output.trans h.output,Nat.le_trans h.size k.size,fun i hi aA=>(k.block i (Nat.lt_of_lt_of_le hi h.size) aA).trans (h.block i hi aA)⟩
theorem zDI.side{P:Program}{kt:TypeId}{w w1:World}{M n lo hi:Nat}{D:DataW Value}{v:Value}{W:zE}{vd:Nat->Value}(h:zDI w lo hi v W vd)(hg:w.grownBy w1 (some M))(hm:w.ownsMap P kt zBV M n D)(i:Nat)(aA:i<zm W) :
  ∃g c,v = .slice (some ⟨g,0,none⟩) (zm W) c/\w1.cell? ⟨g,i*5,none⟩=some (.int .i64 (zJ W i).zPH)/\w1.cell? ⟨g,i*5+1,none⟩=some (.int .i64 (zJ W i).time)/\w1.cell? ⟨g,i*5+2,none⟩=some (.int .i64 (zJ W i).rs)/\w1.cell? ⟨g,i*5+3,none⟩=some (.int .i64 (zJ W i).rb)/\w1.cell? ⟨g,i*5+4,none⟩=some (vd i):=by
 obtain⟨g,c,e,h0,h1,h2,h3,h4⟩:=h.cells i aA;exact⟨g,c,e,zBA hg hm h0,zBA hg hm h1,zBA hg hm h2,zBA hg hm h3,zBA hg hm h4⟩
theorem zg.side{w w1:World}{M b:Nat}{a0 a1 a2 a3 a4 a5:Value}(h:zg w b a0 a1 a2 a3 a4 a5)(hg:w.grownBy w1 (some M))(aA:b≠M):zg w1 b a0 a1 a2 a3 a4 a5:=by
 obtain⟨h0,h1,h2,h3,h4,h5⟩:=h;have hc:∀{o:Nat} {v:Value},zQ w b o v->zQ w1 b o v:=fun hc=>⟨(hg.cell_far _ (zD hc.1) (fun e=>aA (Option.some.inj e))).trans hc.1,(hg.frozen_far _ (zD hc.1) (fun e=>aA (Option.some.inj e))).trans hc.2⟩
 exact⟨hc h0,hc h1,hc h2,hc h3,hc h4,hc h5⟩
theorem zKy(v:Value)(s:zY)(w:World):(Instr.field 99 (qX v s) 4).run Tryz.prog w = .ok (.int .i64 s.time) w:=by kernel_rfl
theorem zOO:Go.WideMaps.KeyLaw Tryz.prog 61:=deep_law_laid zNO (m:=5) (by decide) (zNQ (by kernel_rfl)) (by kernel_rfl) (by kernel_rfl)
theorem zGc:Tryz.prog.underlying 251=some (.map 61 2):=by kernel_rfl
theorem zNt(w:World):(zeroValue 2).run Tryz.prog w = .ok (.int .i64 0) w:=by kernel_rfl
theorem wrap_small{n:Int}(h0:-9223372036854775808<=n)(h1:n<9223372036854775808):IntKind.i64.wrap n=n:=by
 unfold IntKind.wrap;simp only[IntKind.signed,IntKind.bits,Bool.true_and];split
 ·rename_i hc
  have aA:=of_decide_eq_true hc;omega
 ·rename_i hc
  have aA:=of_decide_eq_false (Bool.eq_false_iff.2 hc);omega
theorem zKz{N n r h:Nat}(hr:r<=n)(hn:n<=200)(hh:h<=9223372036854775807):((N:Int) == IntKind.i64.wrap (IntKind.i64.wrap ((n:Int) - (r:Int)) - (h:Int)))=true↔N+r+h=n:=by
 have e1:IntKind.i64.wrap ((n:Int) - (r:Int))=(n:Int) - (r:Int):=wrap_small (by omega) (by omega);rw[e1];have e2:IntKind.i64.wrap ((n:Int) - (r:Int) - (h:Int))=(n:Int) - (r:Int) - (h:Int):=wrap_small (by omega) (by omega);rw[e2,beq_iff_eq];omega
theorem zEu{w:World}{b n:Nat}{D:DataW Value}{ky v:Value}{kl:Lit}(h:w.ownsMap Tryz.prog 61 zBV b n D)(aA:keyOf Tryz.prog 61 ky=some kl)(cA:D.atKey kl (.held (.int .i64 0)) = .held v):(Instr.lookup 251 (.map (some b)) ky false).run Tryz.prog w = .ok v w:=by
 obtain⟨v',ps,bA,hv⟩:=h.lookup zOc zGc (zNt w) (zA2 _) aA;have e1:=zDb hv;rw[cA]at e1;obtain rfl:=DataW.held.inj e1;exact bA
theorem zGb(v0 v1 v2 v3:Value)(lo hi:Nat)(W:zE)(A:Nat)(w:World)(h:zd w lo hi v0 v1 v2 v3 W)(hs:W.sn<=8)(hp:W.pn<=20)(hA:zAq w lo hi W A)(hD:yy W)(aE:zAr W)(hR:qB W.zPE)(hT:zIh W)(rC:∀i,i<zm W->zz W.zPE (zJ W i).rs (zJ W i).rb) :
  Calls Tryz.prog 208 #[zt v0 v1 v2 v3 W,zEJ A] w fun e w'=>zG (zEg W) e/\Below w.heap.size w w':=by
 obtain⟨key,hK⟩:=zMM hR rC;have HK:=zB hK;have Hp:=zB h;have HA:=zB hA;have HD:=zB hD;have mE:=zB aE;have HR:=zB hR;have eE:=zB hT;have fE:=zB rC;clear h hA hD aE hR hT rC hK;have ha:=zC w (.cells #[v0,v1,.int .i64 W.time,.int .i64 W.next,v2,v3] 37);have HB:=zB (zg.new w v0 v1 (.int .i64 W.time) (.int .i64 W.next) v2 v3 37);have fD:(w.alloc (.cells #[v0,v1,.int .i64 W.time,.int .i64 W.next,v2,v3] 37)).heap.size=w.heap.size+1:=World.size_alloc _ _;have hm:=World.ownsMap_made (w.alloc (.cells #[v0,v1,.int .i64 W.time,.int .i64 W.next,v2,v3] 37)) Tryz.prog 61 zBV;rw[fD]at hm;have HM:=zB hm;have pB:=zB (HB.out.zO9 (zC _ (.map #[] 0)));have rB:=zB (zA ha (zC _ (.map #[] 0)));have nF:=@run_makeMap Tryz.prog;obtain⟨⟨x0,-⟩,⟨x2,-⟩,⟨x4,-⟩,⟨x6,-⟩,⟨x8,-⟩,⟨fF,-⟩⟩:=pB.out;clear hm;go_enter Tryz.func208,Tryz.ntmps208;go_wp2_with fail;go_step3;go_wp2_with fail;go_step3;go_wp2_with fail;clear x0 x2 x4 x6 x8 fF ha HB;have pC:=zB (show((w.alloc (.cells #[v0,v1,.int .i64 W.time,.int .i64 W.next,v2,v3] 37)).alloc (.map #[] 0)).heap.size=w.heap.size+2 by rw[World.size_alloc,fD]);clear fD;generalize (w.alloc (.cells #[v0,v1,.int .i64 W.time,.int .i64 W.next,v2,v3] 37)).alloc (.map #[] 0)=W0 at HM pB rB pC ⊢;refine(zBQ v0 v1 v2 v3 lo hi W W0 (Hp.out.zO9 rB.out) hs hp).mono ?_;rintro e w1 ⟨vm,vd,rfl,hm,iB⟩;have iD:=zB hm;have jD:=zB (pB.out.zO9 iB);have gD:=zB (HM.out.kept (yW iB none) (by simp));have pE:=zA rB.out iB;have hz:w.heap.size+2<=w1.heap.size:=by have h1:=iB.size;have h2:=pC.out;omega
 obtain⟨am,cm,rfl,kF⟩:=id hm.zPO;have oF:zm W<=28:=by unfold zm;omega
 clear iB hm pB rB HM pC;go_wp2
 go_loopw [6,15] (fun s i wr=>∃k:Nat,k<=zm W/\s = .bool true/\i = .int .i64 k/\wr.ownsMap Tryz.prog 61 zBV (w.heap.size+1) (zo W k).length (zH6 key (zo W k).length)/\zEc (zo W k).length key/\w1.grownBy wr (some (w.heap.size+1))/\Below w.heap.size w wr) (fun _ i _=>zm W - (intOf i).toNat)
 case atStart=>exact⟨0,Nat.zero_le _,rfl,rfl,gD.out,fun i hi=>absurd hi (Nat.not_lt_zero _),World.grownBy.refl _ _,pE⟩
 case round=>
  obtain⟨k,hk,rfl,rfl,lA,tA,kB,hb⟩:=hrel;have bA:=zB lA;have gA:=zB tA;have fA:=zB kB;clear lA tA kB;by_cases mB:k<zm W;rotate_left
  ·obtain rfl:k=zm W:=(by omega);obtain⟨⟨m0,a0,c0,rfl,vF,-⟩,⟨m1,a1,c1,rfl,aG,-⟩⟩:=id Hp.out.zPE;have eD:=HK.out.size gA.out;have rD:=(bA.out.kept (yW ((Below.refl _ _).drew) none) (by simp)).len zGc 3;rw[eD]at rD;have lE:=zB eD;clear eD;have vA:=zGv W.zPE.s W.zPE.n;have gB:=HR.out.1;unfold maxLen at m0 m1;have mA:=zB (jD.out.side fA.out (by omega));obtain⟨⟨x0,-⟩,⟨x1,-⟩,⟨x2,-⟩,⟨x3,-⟩,⟨x4,-⟩,⟨x5,-⟩⟩:=mA.out;have cE:=zB (HK.out.dist.1 gA.out);have dF:zL1 W.zPE=(roomN W.zPE.s W.zPE.n:Int):=if_pos HR.out;generalize hN:(zo W (zm W)).length=N at *;have HN:=zB hN;clear hN;go_wp2_with fail;go_region_held3 (fun w'=>w'.cell? ⟨w.heap.size,0,none⟩=some (.slice a0 W.zPE.n c0)/\w'.cell? ⟨w.heap.size,1,none⟩=some (.slice a1 W.zPE.hn c1)/\(Builtin.len_ #[251] 3 #[.map (some (w.heap.size+1))]).run Tryz.prog w' = .ok (.int .i64 (N:Nat)) w') (go_keep)
    (first
     | (go_at_call 227;refine(zFU _ _ lo hi W.zPE _ ((Hp.out.zO9 hb).zPE.zO9 (Below.refl _ _).drew)).mono ?_;rintro e w5 ⟨rfl,aC⟩;have rA:=zI aC;obtain⟨⟨k0,_⟩,⟨k1,_⟩,_⟩:=mA.out.zO9 rA;have pD:=(bA.out.kept (yW rA none) (by simp)).len zGc 3;rw[lE.out]at pD))
   have nB:=zKz (N:=N) vA gB (by omega:W.zPE.hn<=9223372036854775807);have mC:=zB nB;have rE:=zA hb rA;clear nB rD pD dF vA gB;go_wp2
   try rw[Exit.noGoto_ret]
   go_ret;refine⟨⟨_,rfl,?_⟩,rE⟩;rw[mC.out];unfold zEg;rw[HN.out];exact⟨fun hx=>⟨cE.out,hx⟩,fun hx=>hx.2⟩
  have bF:(k:Int)<(zm W:Int):=(by omega);obtain⟨g,cg,e,q0,q1,q2,q3,q4⟩:=iD.out.side fA.out gD.out k mB;obtain⟨-,ad,cd,vD,-,-⟩:=id (iD.out.zPK k mB);rw[vD]at q4;cases e;have nA:=zC wr (.cells #[.int .i64 (zJ W k).zPH,.int .i64 (zJ W k).time,.int .i64 (zJ W k).rs,.int .i64 (zJ W k).rb,.slice ad (zJ W k).dn cd] 224);have HV:=zB (zCU.new wr (.int .i64 (zJ W k).zPH) (.int .i64 (zJ W k).time) (.int .i64 (zJ W k).rs) (.int .i64 (zJ W k).rb) (.slice ad (zJ W k).dn cd) 224);have mA:=zB ((jD.out.side fA.out (by omega)).zO9 nA);have vB:=zA hb nA;have iA:=zB (bA.out.kept (yW nA none) (by simp));have pA:=zB (zBC fA.out (yW nA (some (w.heap.size+1))));have eC:=zB (HA.out.zO9 vB);have lC:=zB (Hp.out.zO9 vB);have nE:=zB (mE.out k mB);have gC:=zB (fE.out k mB);have nC:=zB (eE.out (zJ W k).zPH);have oC:=zB (show yA W (zJ W k)=zAB (zX W.zPE (zJ W k).rs (zJ W k).rb) (zK W (zJ W k).zPH).time from rfl);have eB:=zB (show(zo W (k+1)).length=(zo W k).length+(yA W (zJ W k)).length from List.length_append);have gE:=zB (fun (j:Nat) (hj:j<(yA W (zJ W k)).length)=>zNE W (k:=k) (n:=zm W) mB hj);have oE:=zB (zHL W (zJ W k));have jE:=zB (zH8 W k);clear vD nA fA bA;generalize zJ W k=mk at *;go_wp2_with fail;clear q0 q1 q2 q3 q4;have aB:=zB (show w.heap.size+2<=(wr.alloc (.cells #[.int .i64 mk.zPH,.int .i64 mk.time,.int .i64 mk.rs,.int .i64 mk.rb,.slice ad mk.dn cd] 224)).heap.size from Nat.le_trans hz pA.out.size);generalize wr.alloc (.cells #[.int .i64 mk.zPH,.int .i64 mk.time,.int .i64 mk.rs,.int .i64 mk.rb,.slice ad mk.dn cd] 224)=W2 at HV mA eC lC vB iA pA aB ⊢;generalize wr.heap.size=V at HV ⊢;obtain⟨⟨y0,-⟩,⟨y1,-⟩,⟨y2,-⟩,⟨y3,-⟩,⟨y4,-⟩⟩:=HV.out;obtain⟨⟨x0,-⟩,⟨x1,-⟩,⟨x2,-⟩,⟨x3,-⟩,⟨x4,-⟩,⟨x5,-⟩⟩:=mA.out;have eF:=qK W.zPE mk.rs mk.rb;have fC:=zB (show qN (zX W.zPE mk.rs mk.rb).length (zk (zX W.zPE mk.rs mk.rb)) (zn (zX W.zPE mk.rs mk.rb))from zAn HR.out (fun x hx=>(zAF HR.out gC.out hx).1) (zAQ HR.out gC.out) (by omega));have sE:=zCq;have tE:=zKy;generalize lD:zK W mk.zPH=S at nC oC ⊢;have bE:=zB lD;clear lD;generalize mD:zX W.zPE mk.rs mk.rb=tree at fC eF oC ⊢;have dE:=zB mD;clear mD;go_region_held3 (fun w'=>w'.cell? ⟨w.heap.size,0,none⟩=some v0/\w'.cell? ⟨w.heap.size,1,none⟩=some v1/\w'.cell? ⟨w.heap.size,2,none⟩=some (.int .i64 W.time)/\w'.cell? ⟨w.heap.size,3,none⟩=some (.int .i64 W.next)/\w'.cell? ⟨w.heap.size,4,none⟩=some v2/\w'.cell? ⟨w.heap.size,5,none⟩=some v3/\w'.cell? ⟨V,0,none⟩=some (.int .i64 mk.zPH)/\w'.cell? ⟨V,2,none⟩=some (.int .i64 mk.rs)/\w'.cell? ⟨V,3,none⟩=some (.int .i64 mk.rb)) (go_keep)
   (first
    | (go_at_call 226;refine(zBH v0 v1 v2 v3 lo hi W mk.rs mk.rb _ ?_ HR.out gC.out).mono ?_;(exact lC.out.zO9 (Below.refl _ _).drew);rintro e w5 ⟨vt,rfl,dC,aC⟩;rw[dE.out]at dC;obtain⟨iF,jF,rfl,-⟩:=za dC;have rA:=zI aC;obtain⟨⟨k0,_⟩,⟨k1,_⟩,⟨k2,_⟩,⟨k3,_⟩,⟨k4,_⟩,⟨k5,_⟩⟩:=mA.out.zO9 rA;obtain⟨⟨l0,_⟩,_,⟨l2,_⟩,⟨l3,_⟩,_⟩:=HV.out.zO9 rA)
    | (go_at_call 190;refine(zA9 lo hi W A mk.zPH _ (eC.out.zO9 rA) HD.out nE.out hp).mono ?_;rintro e w6 ⟨aa,ca,rfl,cF,sC⟩;rw[bE.out];have tB:=zA rA sC;obtain⟨⟨f0,_⟩,⟨f1,_⟩,⟨f2,_⟩,⟨f3,_⟩,⟨f4,_⟩,⟨f5,_⟩⟩:=mA.out.zO9 tB;obtain⟨⟨g0,_⟩,_,⟨g2,_⟩,⟨g3,_⟩,_⟩:=HV.out.zO9 tB)
    | (go_at_call 151;refine(zAa _ tree.length 0 _ (zk tree) (zn tree) S.time _ ((dC.zO9 sC).atW (by omega))).mono ?_;rintro e w7 ⟨vy,vz,ly,lz,rfl,hY,-,hy,-,-,nD⟩;rw[(hY.1 ⟨fC.out,nC.out⟩).trans (zFI tree S.time)]at hy;rw[<-oC.out]at hy;obtain⟨ay,cy,rfl,lF⟩:=za hy;have sA:=zA tB nD;obtain⟨⟨m0,_⟩,⟨m1,_⟩,⟨m2,_⟩,⟨m3,_⟩,⟨m4,_⟩,⟨m5,_⟩⟩:=mA.out.zO9 sA;obtain⟨⟨n0,_⟩,_,⟨n2,_⟩,⟨n3,_⟩,_⟩:=HV.out.zO9 sA))
  have HY:=zB hy;have jA:=zB (iA.out.kept (yW sA none) (by simp));have iC:=zB (zBC pA.out (yW sA (some (w.heap.size+1))));have gF:=zB (mA.out.zO9 sA);have bB:=zA vB sA;have tF:w.heap.size+2<=w7.heap.size:=Nat.le_trans aB.out sA.size;have sF:=oE.out;have mF:=jE.out;clear hy sA nD tB sC rA aC dC cF hY mA HV eC lC iA pA aB fC nC sE tE x0 x1 x2 x3 x4 x5 y0 y1 y2 y3 y4 k0 k1 k2 k3 k4 k5 l0 l2 l3 f0 f1 f2 f3 f4 f5 g0 g2 g3 m0 m1 m2 m3 m4 m5 n0 n2 n3;generalize rF:yA W mk=yl at *;go_wp2_with fail
  go_loopw [6,31] (fun s i wr=>∃j:Nat,j<=yl.length/\s = .bool true/\i = .int .i64 j/\wr.ownsMap Tryz.prog 61 zBV (w.heap.size+1) ((zo W k).length+j) (zH6 key ((zo W k).length+j))/\zEc ((zo W k).length+j) key/\w7.grownBy wr (some (w.heap.size+1))/\Below w.heap.size w wr) (fun _ i _=>yl.length - (intOf i).toNat)
  case atStart=>exact⟨0,Nat.zero_le _,rfl,rfl,jA.out,gA.out,World.grownBy.refl _ _,bB⟩
  case round=>
   clear bB;obtain⟨j,hj,rfl,rfl,lA,oD,kB,bB⟩:=hrel;have bA:=zB lA;have sB:=zB oD;have fA:=zB kB;clear lA oD kB;by_cases aD:j<yl.length;rotate_left
   ·obtain rfl:j=yl.length:=(by omega);go_wp2;go_roundw
    case rel=>
     refine⟨k+1,by omega,rfl,by go_num,?_,?_,zBC iC.out fA.out,bB⟩
     ·rw[eB.out];exact bA.out
     ·rw[eB.out];exact sB.out
    case measure=>simp[intOf];omega
   have vE:(j:Int)<(yl.length:Int):=(by omega);obtain⟨-,a7,c7,e7,-,jB⟩:=id (HY.out.atW (by omega));cases e7;obtain⟨b7,o7,rfl,-,-,jB⟩:=jB (by omega);have q0:=zBA fA.out jA.out (jB j aD).1;have q1:=zBA fA.out jA.out (jB j aD).2;clear jB;obtain⟨dD,sD⟩:=gE.out j aD;have lB:keyOf Tryz.prog 61 (.agg #[.int .i64 (zk yl j),.int .i64 (zn yl j)])=some (key ((zo W k).length+j)):=by
    have:=HK.out.at_ _ dD;rw[sD]at this;exact this
   have kE:=zB dD;have dA:=zB lB;clear sD dD lB;have nA:=zC wr (.cells #[.int .i64 (zk yl j),.int .i64 (zn yl j)] 61);have HV:=zB (zp.new wr (.int .i64 (zk yl j)) (.int .i64 (zn yl j)) 61);have cA:=zB ((bA.out.kept (yW nA none) (by simp)).kept (yW ((Below.refl _ _).drew) none) (by simp));have dB:=zB (zBC fA.out (yW nA (some (w.heap.size+1))));have cB:=zA bB nA;have kA:=zB (show w.heap.size+1<wr.heap.size by have:=fA.out.size;omega);clear nA fA bA;have pF:(zo W k).length+j<=3000:=(by omega);generalize tD:(zo W k).length+j=p at *;have kD:=zB tD;clear tD;generalize zk yl j=xs at *;generalize zn yl j=xb at *;go_wp2_with fail;clear q0 q1;generalize wr.alloc (.cells #[.int .i64 xs,.int .i64 xb] 61)=W3 at HV cA dB cB ⊢;generalize wr.heap.size=V at HV kA ⊢;by_cases eA:∀i,i<p->key i≠key p
   ·have bD:=zEu cA.out dA.out (HK.out.new eA);obtain⟨ev,st,wa,wb,he,cD,oB,aA,vC,oA⟩:=zH2 cA.out zOO zGc (by unfold maxLen;omega) zNt dA.out (HK.out.new eA) (val:=.int .i64 1);obtain⟨⟨y0,-⟩,⟨y1,-⟩⟩:=HV.out.zO9 ((Below.refl _ _).drew);have z0:=(oA.cell_far _ (zD y0) (fun e=>by have h1:=Option.some.inj e;have h2:=kA.out;simp only at h1;omega)).trans y0;have z1:=(oA.cell_far _ (zD y1) (fun e=>by have h1:=Option.some.inj e;have h2:=kA.out;simp only at h1;omega)).trans y1;have aF:=zEu aA dA.out (HK.out.put p _);have fB:=zB aA;have iE:=zB (zBC (zBC dB.out (yW ((Below.refl _ _).drew) (some (w.heap.size+1)))) oA);have tC:=cB.drew.grown oA (Nat.le_trans cB.size (Nat.le_refl _)) (fun q e=>by cases e;omega);have jC:=zB eA;clear aA vC oA eA cB bB;unfold goInt at he oB;go_region;clear bD cD he oB y0 y1;go_wp2;go_roundw
    case rel=>exact⟨j+1,by omega,rfl,by go_num,by rw[show(zo W k).length+(j+1)=p+1 by have:=kD.out;omega];exact fB.out,by rw[show(zo W k).length+(j+1)=p+1 by have:=kD.out;omega];exact zEM.2 ⟨sB.out,jC.out⟩,iE.out,tC⟩
    case measure=>simp[intOf];omega
   ·obtain⟨i0,cC,bC⟩:∃i,i<p/\key i=key p:=by
     by_cases hx:∃i,i<p/\key i=key p
     ·exact hx
     ·exact absurd (fun i hi e=>hx ⟨i,hi,e⟩) eA
    have kC:=zB (HK.out.not_nodup cC kE.out bC);have bD:=zEu cA.out dA.out (HK.out.old cC bC sB.out);obtain⟨ev,st,wa,wb,he,cD,oB,aA,vC,oA⟩:=zH2 cA.out zOO zGc (by unfold maxLen;omega) zNt dA.out (HK.out.old cC bC sB.out) (val:=.int .i64 2);obtain⟨⟨y0,-⟩,⟨y1,-⟩⟩:=HV.out.zO9 ((Below.refl _ _).drew);have z0:=(oA.cell_far _ (zD y0) (fun e=>by have h1:=Option.some.inj e;have h2:=kA.out;simp only at h1;omega)).trans y0;have z1:=(oA.cell_far _ (zD y1) (fun e=>by have h1:=Option.some.inj e;have h2:=kA.out;simp only at h1;omega)).trans y1;have aF:=zEu aA dA.out (HK.out.put p _);have tC:=cB.drew.grown oA (Nat.le_trans cB.size (Nat.le_refl _)) (fun q e=>by cases e;omega);clear aA vC oA eA cB bB cC bC;unfold goInt at he oB;go_region;clear bD cD he oB y0 y1;go_wp2_with fail;go_region;go_wp2;rw[Exit.noGoto_ret];go_ret;exact⟨zG.no fun hx=>kC.out hx.1,tC.drew⟩
theorem zBx(v0 v1 v2 v3:Value)(lo hi:Nat)(W:zE)(w:World)(h:zd w lo hi v0 v1 v2 v3 W)(aB:zAr W) :
  Calls Tryz.prog 165 #[zt v0 v1 v2 v3 W] w fun e w'=>zG (yk W) e/\Below w.heap.size w w':=by
 have Hp:=zB h;have cA:=zB aB;clear h aB;have ha:=zC w (.cells #[v0,v1,.int .i64 W.time,.int .i64 W.next,v2,v3] 37);have HB:=zB (zg.new w v0 v1 (.int .i64 W.time) (.int .i64 W.next) v2 v3 37);obtain⟨⟨x0,-⟩,⟨x1,-⟩,⟨x2,-⟩,⟨x3,-⟩,⟨x4,-⟩,⟨x5,-⟩⟩:=HB.out;go_enter Tryz.func165,Tryz.ntmps165;go_wp2_with fail;generalize w.alloc (.cells #[v0,v1,.int .i64 W.time,.int .i64 W.next,v2,v3] 37)=W0 at ha HB x0 x1 x2 x3 x4 x5 ⊢;refine(zDQ W.time W0).mono ?_;rintro e w1 ⟨⟨t1,rfl,bA⟩,rfl⟩;have aA:=zB bA;clear bA;cases t1
 ·have Hn:=zB (show ¬yk W from fun hI=>absurd (aA.out.2 hI.zPL.time) (by simp));clear aA;go_wp2;go_ret;exact⟨zG.no Hn.out,ha⟩
 have H1:=zB (aA.out.1 rfl);clear aA;go_wp2_with fail;refine(zDQ W.next _).mono ?_;rintro e w1 ⟨⟨t1,rfl,bA⟩,rfl⟩;have aA:=zB bA;clear bA;cases t1
 ·have Hn:=zB (show ¬yk W from fun hI=>absurd (aA.out.2 hI.zPL.next) (by simp));clear aA;go_wp2;go_ret;exact⟨zG.no Hn.out,ha⟩
 have H2:=zB (aA.out.1 rfl);clear aA;go_wp2_with fail;refine(zHp v2 W.sn lo hi W.zPG _ (Hp.out.zO9 ha).zPG).mono ?_;rintro e w2 ⟨⟨t1,rfl,bA⟩,hc⟩;have aA:=zB bA;have dA:=zA ha hc;have nA:=zB (HB.out.zO9 hc);clear bA hc x0 x1 x2 x3 x4 x5;obtain⟨⟨x0,-⟩,⟨x1,-⟩,⟨x2,-⟩,⟨x3,-⟩,⟨x4,-⟩,⟨x5,-⟩⟩:=nA.out;cases t1
 ·have Hn:=zB (show ¬yk W from fun hI=>absurd (aA.out.2 hI.zPL.zPG) (by simp));clear aA;go_wp2;go_ret;exact⟨zG.no Hn.out,dA⟩
 have H3:=zB (aA.out.1 rfl);clear aA;have hs:=H3.out.1;go_wp2_with fail;refine(zHB v0 v1 v2 v3 lo hi W _ (Hp.out.zO9 dA) hs).mono ?_;rintro e w3 ⟨⟨t1,rfl,bA⟩,hc⟩;have aA:=zB bA;have eA:=zA dA hc;have oA:=zB (nA.out.zO9 hc);clear bA hc x0 x1 x2 x3 x4 x5;obtain⟨⟨x0,-⟩,⟨x1,-⟩,⟨x2,-⟩,⟨x3,-⟩,⟨x4,-⟩,⟨x5,-⟩⟩:=oA.out;cases t1
 ·have Hn:=zB (show ¬yk W from fun hI=>absurd (aA.out.2 hI.zPL.zPD) (by simp));clear aA;go_wp2;go_ret;exact⟨zG.no Hn.out,eA⟩
 have H4:=zB (aA.out.1 rfl);clear aA;have hp:=H4.out.1;have HN:=zB (show zCA W from⟨H1.out,H2.out,H3.out,H4.out⟩);go_wp2_with fail;refine(zA0 v0 v1 lo hi W.zPE _ (Hp.out.zO9 eA).zPE).mono ?_;rintro e w4 ⟨⟨t1,rfl,bA⟩,hc⟩;have aA:=zB bA;have fA:=zA eA hc;have pA:=zB (oA.out.zO9 hc);clear bA hc x0 x1 x2 x3 x4 x5;obtain⟨⟨x0,-⟩,⟨x1,-⟩,⟨x2,-⟩,⟨x3,-⟩,⟨x4,-⟩,⟨x5,-⟩⟩:=pA.out;cases t1
 ·have Hn:=zB (show ¬yk W from fun hI=>absurd (aA.out.2 hI.right) (by simp));clear aA;go_wp2;go_ret;exact⟨zG.no Hn.out,fA⟩
 have H5:=zB (aA.out.1 rfl);clear aA;go_wp2_with fail;refine(zFk v0 v1 v2 v3 lo hi W _ (Hp.out.zO9 fA) hp HN.out.idsWf).mono ?_;rintro e w5 ⟨A,rfl,hA,hc⟩;have kA:=zB hA;have vA:=zA fA hc;have rA:=zB (pA.out.zO9 hc);clear hA hc x0 x1 x2 x3 x4 x5;obtain⟨⟨x0,-⟩,⟨x1,-⟩,⟨x2,-⟩,⟨x3,-⟩,⟨x4,-⟩,⟨x5,-⟩⟩:=rA.out;go_wp2_with fail;refine(zGs v0 v1 v2 v3 lo hi W A _ (Hp.out.zO9 vA) hs hp kA.out HN.out.dist cA.out).mono ?_;rintro e w6 ⟨⟨t1,rfl,bA⟩,hc⟩;have aA:=zB bA;have gA:=zA vA hc;have sA:=zB (rA.out.zO9 hc);have lA:=zB (kA.out.zO9 hc);clear bA hc x0 x1 x2 x3 x4 x5;obtain⟨⟨x0,-⟩,⟨x1,-⟩,⟨x2,-⟩,⟨x3,-⟩,⟨x4,-⟩,⟨x5,-⟩⟩:=sA.out;cases t1
 ·have Hn:=zB (show ¬yk W from fun hI=>absurd (aA.out.2 hI.prevs) (by simp));clear aA;go_wp2;go_ret;exact⟨zG.no Hn.out,gA⟩
 have H7:=zB (aA.out.1 rfl);clear aA;go_wp2_with fail;refine(zGi v0 v1 v2 v3 lo hi W A _ (Hp.out.zO9 gA) hp hs lA.out HN.out.dist (HN.out.prevOk H7.out)).mono ?_;rintro e w7 ⟨⟨t1,rfl,bA⟩,hc⟩;have aA:=zB bA;have iA:=zA gA hc;have tA:=zB (sA.out.zO9 hc);have mA:=zB (lA.out.zO9 hc);clear bA hc x0 x1 x2 x3 x4 x5;obtain⟨⟨x0,-⟩,⟨x1,-⟩,⟨x2,-⟩,⟨x3,-⟩,⟨x4,-⟩,⟨x5,-⟩⟩:=tA.out;cases t1
 ·have Hn:=zB (show ¬yk W from fun hI=>absurd (aA.out.2 hI.lines) (by simp));clear aA;go_wp2;go_ret;exact⟨zG.no Hn.out,iA⟩
 have H8:=zB (aA.out.1 rfl);clear aA;go_wp2_with fail;refine(zHI v0 v1 v2 v3 lo hi W A _ (Hp.out.zO9 iA) hs hp mA.out HN.out.dist cA.out H5.out HN.out.times).mono ?_;rintro e w8 ⟨⟨t1,rfl,bA⟩,hc⟩;have aA:=zB bA;have jA:=zA iA hc;have cB:=zB (tA.out.zO9 hc);have bB:=zB (mA.out.zO9 hc);clear bA hc x0 x1 x2 x3 x4 x5;obtain⟨⟨x0,-⟩,⟨x1,-⟩,⟨x2,-⟩,⟨x3,-⟩,⟨x4,-⟩,⟨x5,-⟩⟩:=cB.out;cases t1
 ·have Hn:=zB (show ¬yk W from fun hI=>absurd (aA.out.2 hI.trees) (by simp));clear aA;go_wp2;go_ret;exact⟨zG.no Hn.out,jA⟩
 have H9:=zB (aA.out.1 rfl);clear aA;go_wp2_with fail;refine(zGb v0 v1 v2 v3 lo hi W A _ (Hp.out.zO9 jA) hs hp bB.out HN.out.dist cA.out H5.out HN.out.times H9.out.1).mono ?_;rintro e w9 ⟨⟨t1,rfl,bA⟩,hc⟩;have aA:=zB bA;have dB:=zA jA hc;clear bA hc;have Hn:=zB (show t1=true↔yk W from⟨fun e=>⟨HN.out,H5.out,H7.out,H8.out,H9.out,aA.out.1 e⟩,fun hI=>aA.out.2 hI.homes⟩);clear aA;go_wp2;go_ret;exact⟨⟨t1,rfl,Hn.out⟩,dB⟩
def zKh(w:World)(b:Nat)(v0 v1 v2 v3:Value):Prop:=zQ w b 0 v0/\zQ w b 1 v1/\zQ w b 2 v2/\zQ w b 3 v3
theorem zKh.zO9{w w':World}{b:Nat}{v0 v1 v2 v3:Value}(h:zKh w b v0 v1 v2 v3)(t:Below w.heap.size w w'):zKh w' b v0 v1 v2 v3:=⟨h.1.zO9 t,h.2.1.zO9 t,h.2.2.1.zO9 t,h.2.2.2.zO9 t⟩
theorem zKh.new(w:World)(v0 v1 v2 v3:Value)(t:TypeId):zKh (w.alloc (.cells #[v0,v1,v2,v3] t)) w.heap.size v0 v1 v2 v3:=by
 have hb:(w.alloc (.cells #[v0,v1,v2,v3] t)).heap[w.heap.size]?=some (.cells #[v0,v1,v2,v3] t):=heap_alloc_new _ _;exact⟨zH hb rfl,zH hb rfl,zH hb rfl,zH hb rfl⟩
abbrev put4(w:World)(b:Nat)(u0 u1 u2 u3:Value):World:=(((w.setCell ⟨b,0,none⟩ u0).setCell ⟨b,1,none⟩ u1).setCell ⟨b,2,none⟩ u2).setCell ⟨b,3,none⟩ u3
def zB9(w:World)(p:Nat->Addr)(v:Value)(m:Nat)(g:Nat->Nat)(lb:Nat->Array Value)(ei:Nat->Nat):Prop:=
 m<=1000/\∃a c,v = .slice a m c/\(0<m->∃b off,a=some ⟨b,off,none⟩/\∀i,i<m->w.cell? ⟨b,off+i*2,none⟩=some (.func (.func (g i)) #[] (lb i))/\w.cell? ⟨b,off+i*2+1,none⟩=some (qC (p (ei i))))
theorem zB9.zO9{w w':World}{p:Nat->Addr}{v:Value}{m:Nat}{g:Nat->Nat}{lb:Nat->Array Value}{ei:Nat->Nat}(h:zB9 w p v m g lb ei)(t:Below w.heap.size w w'):zB9 w' p v m g lb ei:=by
 obtain⟨m1,a,c,hv,hx⟩:=h;refine⟨m1,a,c,hv,fun h0=>?_⟩;obtain⟨b,off,ha,hc⟩:=hx h0;exact⟨b,off,ha,fun i hi=>⟨(t.cell (zD (hc i hi).1)).trans (hc i hi).1,(t.cell (zD (hc i hi).2)).trans (hc i hi).2⟩⟩
theorem zB9.cells{w:World}{p:Nat->Addr}{a:Option Addr}{c m:Nat}{g:Nat->Nat}{lb:Nat->Array Value}{ei:Nat->Nat}(h:zB9 w p (.slice a m c) m g lb ei){i:Nat}(hi:i<m):∃b off,a=some ⟨b,off,none⟩/\w.cell? ⟨b,off+i*2,none⟩=some (.func (.func (g i)) #[] (lb i))/\w.cell? ⟨b,off+i*2+1,none⟩=some (qC (p (ei i))):=by
 obtain⟨m1,a0,c0,hv,hx⟩:=h;simp only[Value.slice.injEq,true_and]at hv;obtain⟨rfl,rfl⟩:=hv;obtain⟨b,off,ha,hc⟩:=hx (by omega);exact⟨b,off,ha,hc i hi⟩
def zFN(W:zE)(long bad:Prop)(m:Nat)(Q:Nat->Prop)(ei:Nat->Nat)(r:Option Nat):Prop:=
 (long/\r=some 1)\/(¬long/\(¬yk W\/bad)/\r=some 0)\/(¬long/\yk W/\¬bad/\∃i,i<m/\¬Q i/\(∀j,j<i->Q j)/\r=some (ei i))\/(¬long/\yk W/\¬bad/\(∀j,j<m->Q j)/\r=none)
def zOi(p:Nat->Addr):Option Nat->Value
 | none=>.nilIface
 | some i=>qC (p i)
theorem zKD(p:Nat->Addr)(tv nv qv dv:Value)(nt nn m:Nat)(tx nx:Nat->ByteArray)(g:Nat->Nat)(lb:Nat->Array Value)(ei:Nat->Nat)(Q:Nat->Prop)(v0 v1 v2 v3:Value)(lo hi:Nat)(W:zE)(w:World)(hE:zEd w p)(h:zd w lo hi v0 v1 v2 v3 W)(lB:zAr W)
  (ht:yz w tv nt tx) (hn:yz w nv nn nx) (hq:zB9 w p qv m g lb ei) (eg:∀i,i<m->Enters Tryz.prog (g i))
  (hQ:∀i,i<m->∀w',Below w.heap.size w w'->yk W->(∀j,j<i->Q j)->Calls Tryz.prog (g i) (#[zt v0 v1 v2 v3 W] ++ lb i) w' fun e mB=>zG (Q i) e/\Below w'.heap.size w' mB) :
  Calls Tryz.prog 105 #[.agg #[tv,nv,qv,dv],zt v0 v1 v2 v3 W] w fun e w'=>∃r,e = .returned (zOi p r)/\zFN W (∃i,i<nt/\8000<(tx i).size) (∃i,i<nn/\¬yE (nx i)) m Q ei r/\Below w.heap.size w w':=by
 have Hp:=zf h;have HE:=zf hE;have Ht:=zf ht;have Hn:=zf hn;have Hq:=zf hq;have HQ:=zf hQ;have Hg:=zf eg;obtain⟨t1,ta,tc,rfl,-⟩:=ht;obtain⟨n1,na,nc,rfl,-⟩:=hn;obtain⟨m1,qa,qc,rfl,-⟩:=hq;clear h hE hQ eg;have bB:=zC w (.cells #[.slice ta nt tc,.slice na nn nc,.slice qa m qc,dv] 86);have sA:=zC (w.alloc (.cells #[.slice ta nt tc,.slice na nn nc,.slice qa m qc,dv] 86)) (.cells #[v0,v1,.int .i64 W.time,.int .i64 W.next,v2,v3] 37);have hb:=zA bB sA;have hd:=(zKh.new w (.slice ta nt tc) (.slice na nn nc) (.slice qa m qc) (dv) 86).zO9 sA;have hx:=zg.new (w.alloc (.cells #[.slice ta nt tc,.slice na nn nc,.slice qa m qc,dv] 86)) (v0) (v1) (.int .i64 W.time) (.int .i64 W.next) (v2) (v3) 37;rw[World.size_alloc]at hx;have HD:=zf hd;have HX:=zf hx;clear hd hx;obtain⟨⟨d0,-⟩,⟨d1,-⟩,⟨d2,-⟩,⟨d3,-⟩⟩:=HD.out;go_enter Tryz.func105,Tryz.ntmps105;go_wp2_with fail;clear d0 d1 d2 d3;generalize ((w.alloc (.cells #[.slice ta nt tc,.slice na nn nc,.slice qa m qc,dv] 86)).alloc (.cells #[v0,v1,.int .i64 W.time,.int .i64 W.next,v2,v3] 37))=W1 at hb HD HX ⊢;clear bB sA;refine(zMI _ nt tx W1 (Ht.out.zO9 hb)).mono ?_;rintro e w2 ⟨⟨t,rfl,aA⟩,fA⟩;have cA:=zA hb fA;have tA:=zf (HD.out.zO9 fA);have nA:=zf (HX.out.zO9 fA);clear fA hb HD HX;by_cases hl:∃i,i<nt/\8000<(tx i).size
 ·obtain rfl:t=true:=aA.2 hl;have HL:=zf hl;have cB:w2.cell? ⟨3,0,none⟩=some (qC (p 1)):=(HE.out.zO9 cA).cell 1 (by omega);clear aA hl;go_wp2;go_ret;exact⟨some 1,rfl,Or.inl ⟨HL.out,rfl⟩,cA⟩
 obtain rfl:t=false:=zW aA hl;have HL:=zf hl;clear aA hl;obtain⟨⟨x0,-⟩,⟨x1,-⟩,⟨x2,-⟩,⟨x3,-⟩,⟨x4,-⟩,⟨x5,-⟩⟩:=nA.out;go_wp2_with fail;clear x0 x1 x2 x3 x4 x5;refine(zBx _ _ _ _ lo hi W w2 (Hp.out.zO9 cA) lB).mono ?_;rintro e w3 ⟨⟨t,rfl,aA⟩,gA⟩;have dA:=zA cA gA;have mA:=zf (tA.out.zO9 gA);have vA:=zf (nA.out.zO9 gA);clear gA cA tA nA;by_cases hw:yk W;rotate_left
 ·obtain rfl:t=false:=zW aA hw;have HW:=zf hw;have cB:w3.cell? ⟨4,0,none⟩=some (qC (p 0)):=(HE.out.zO9 dA).cell 0 (by omega);clear aA hw;go_wp2;go_ret;exact⟨some 0,rfl,Or.inr (Or.inl ⟨HL.out,Or.inl HW.out,rfl⟩),dA⟩
 obtain rfl:t=true:=aA.2 hw;have HW:=zf hw;clear aA hw;obtain⟨⟨d0,-⟩,⟨d1,-⟩,⟨d2,-⟩,⟨d3,-⟩⟩:=mA.out;go_wp2_with fail;clear d0 d1 d2 d3;refine(zMJ _ nn nx w3 (Hn.out.zO9 dA)).mono ?_;rintro e w4 ⟨⟨t,rfl,aA⟩,iA⟩;have pA:=zA dA iA;have dB:=zf (mA.out.zO9 iA);have fB:=zf (vA.out.zO9 iA);clear iA dA mA vA;by_cases hl:∃i,i<nn/\¬yE (nx i)
 ·obtain rfl:t=true:=aA.2 hl;have HN:=zf hl;have cB:w4.cell? ⟨4,0,none⟩=some (qC (p 0)):=(HE.out.zO9 pA).cell 0 (by omega);clear aA hl;go_wp2;go_ret;exact⟨some 0,rfl,Or.inr (Or.inl ⟨HL.out,Or.inr HN.out,rfl⟩),pA⟩
 obtain rfl:t=false:=zW aA hl;have HN:=zf hl;clear aA hl;obtain⟨⟨d0,-⟩,⟨d1,-⟩,⟨d2,-⟩,⟨d3,-⟩⟩:=dB.out;go_wp2;clear d0 d1 d2 d3
 go_loopw [23] (fun i wr=>∃k:Nat,k<=m/\i = .int .i64 k/\(∀j,j<k->Q j)/\zg wr (w.heap.size+1) (v0) (v1) (.int .i64 W.time) (.int .i64 W.next) (v2) (v3)/\Below w.heap.size w wr) (fun i _=>m - (intOf i).toNat)
 case atStart=>exact⟨0,Nat.zero_le _,rfl,fun j hj=>absurd hj (Nat.not_lt_zero _),fB.out,pA⟩
 case round=>
  obtain⟨k,hk,rfl,eA,hX,hb⟩:=hrel;have bA:=zf eA;have iB:=zf hX;clear eA hX;by_cases lA:k<m
  ·have jB:(k:Int)<(m:Int):=(by omega);obtain⟨b,off,rfl,q0,q1⟩:=(Hq.out.zO9 hb).cells lA;have rA:=zC wr (.cells #[.func (.func (g k)) #[] (lb k),qC (p (ei k))] 75);have HV:=zf (zp.new wr (.func (.func (g k)) #[] (lb k)) (qC (p (ei k))) 75);have oA:=zf (iB.out.zO9 rA);have kA:=zA hb rA;have e0:∀(args:Array Value) (w:World),(callFunc (g k) args).run Tryz.prog w = .ok (.enter (g k) args) w:=Hg.out k lA;have kB:=fun (w:World) (a:Addr)=>run_store Tryz.prog w a (.func (.func (g k)) #[] (lb k)) .plain rfl
   obtain⟨⟨z0,-⟩,⟨z1,-⟩⟩:=HV.out;obtain⟨⟨x0,-⟩,⟨x1,-⟩,⟨x2,-⟩,⟨x3,-⟩,⟨x4,-⟩,⟨x5,-⟩⟩:=oA.out;go_wp2_with fail;clear x0 x1 x2 x3 x4 x5 z0 z1 q0 q1 kB;generalize wr.alloc (.cells #[.func (.func (g k)) #[] (lb k),qC (p (ei k))] 75)=W5 at HV oA kA ⊢;generalize wr.heap.size=V at HV ⊢;refine(HQ.out k lA W5 kA HW.out bA.out).mono ?_;rintro e w6 ⟨⟨t,rfl,aA⟩,jA⟩;have aB:=zA kA jA;have eB:=zf (HV.out.zO9 jA);have gB:=zf (oA.out.zO9 jA);clear jA kA rA e0;by_cases hf:Q k
   ·obtain rfl:t=true:=aA.2 hf;have HF:=zf hf;clear aA hf;go_wp2;go_roundw
    case rel=>
     refine⟨k+1,by omega,by go_num,fun j hj=>?_,gB.out,aB⟩;by_cases e:j=k
     ·subst e;exact HF.out
     ·exact bA.out j (by omega)
    case measure=>simp[intOf];omega
   ·obtain rfl:t=false:=zW aA hf;have HF:=zf hf;clear aA hf;obtain⟨⟨z0,-⟩,⟨z1,-⟩⟩:=eB.out;go_wp2;go_ret;exact⟨some (ei k),rfl,Or.inr (Or.inr (Or.inl ⟨HL.out,HW.out,HN.out,k,lA,HF.out,bA.out,rfl⟩)),aB⟩
  ·obtain rfl:k=m:=(by omega);go_wp2;go_ret;exact⟨none,rfl,Or.inr (Or.inr (Or.inr ⟨HL.out,HW.out,HN.out,bA.out,rfl⟩)),hb⟩
def zJA:zv:={name:=⟨#[]⟩,origin:=0,zPH:=0,rs:=0,rb:=0,dn:=0,ds:=fun _=>0,db:=fun _=>0}
structure yR (w:World) (bs o kb:Nat) (kv:Value) (s:zv):Prop where
 c0:zQ w bs o (.string s.name)
 c1:zQ w bs (o+1) (.int .i64 s.origin)
 c2:zQ w bs (o+2) (.int .i64 s.zPH)
 c3:zQ w bs (o+3) (.int .i64 s.rs)
 c4:zQ w bs (o+4) (.int .i64 s.rb)
 c5:zQ w bs (o+5) kv
 zPK:zj w kb kv s.dn s.ds s.db
 zPN:s.name.size<=maxLen
 zPJ:0<s.dn->kb≠bs
theorem yR.zPF{S:Nat->Prop}{w w':World}{bs o kb:Nat}{kv:Value}{s:zv}(h:yR w bs o kb kv s)(t:zF S w w')(h1:¬S bs)(h2:0<s.dn->¬S kb):yR w' bs o kb kv s:=
 ⟨h.c0.zPF t h1,h.c1.zPF t h1,h.c2.zPF t h1,h.c3.zPF t h1,h.c4.zPF t h1,h.c5.zPF t h1,h.zPK.zPF t h2,h.zPN,h.zPJ⟩
theorem yR.zO9{w w':World}{bs o kb:Nat}{kv:Value}{s:zv}(h:yR w bs o kb kv s)(t:Below w.heap.size w w'):yR w' bs o kb kv s:=
 h.zPF (zF.zPB (S:=fun _=>False) t) (fun h=>h) (fun _ h=>h)
theorem yR.cells{w:World}{bs o kb:Nat}{kv:Value}{s:zv}(h:yR w bs o kb kv s){lo hi:Nat}(hb:0<s.dn->lo<=kb/\kb<hi):zAt w bs o lo hi kv s:=
 ⟨h.c0.1,h.c1.1,h.c2.1,h.c3.1,h.c4.1,h.c5.1,h.zPK.at hb,h.zPN⟩
theorem yR.deadLt{w:World}{bs o kb:Nat}{kv:Value}{s:zv}(h:yR w bs o kb kv s)(h0:0<s.dn):kb<w.heap.size:=by
 obtain⟨_,_,_,_,_,h4⟩:=h.zPK;obtain⟨o,_,h5⟩:=h4 h0;exact(h5 0 h0).1.lt
def qm(w:World)(bs:Nat)(kb:Nat->Nat)(kv:Nat->Value)(v:Value)(n:Nat)(f:Nat->zv):Prop:=
 n<=maxLen/\∃a cap,v = .slice a n cap/\n<=cap/\(0<n->∃off,a=some ⟨bs,off,none⟩/\∀i,i<n->yR w bs (off+i*6) (kb i) (kv i) (f i))
def zA4(bs:Nat)(kb:Nat->Nat)(n:Nat)(f:Nat->zv)(k:Nat):Prop:=(0<n/\k=bs)\/∃i,i<n/\0<(f i).dn/\k=kb i
def zAG(kb:Nat->Nat)(n:Nat)(f:Nat->zv):Prop:=∀i j,i<n->j<n->i≠j->0<(f i).dn->0<(f j).dn->kb i≠kb j
theorem qm.lt{w:World}{bs:Nat}{kb:Nat->Nat}{kv:Nat->Value}{v:Value}{n:Nat}{f:Nat->zv}(h:qm w bs kb kv v n f){k:Nat}(hk:zA4 bs kb n f k):k<w.heap.size:=by
 obtain⟨_,a,cap,_,_,hc⟩:=h;rcases hk with⟨h0,rfl⟩ | ⟨i,hi,h0,rfl⟩
 ·obtain⟨off,_,h3⟩:=hc h0;exact(h3 0 h0).c0.lt
 ·obtain⟨off,_,h3⟩:=hc (by omega);exact(h3 i hi).deadLt h0
theorem qm.zPF{S:Nat->Prop}{w w':World}{bs:Nat}{kb:Nat->Nat}{kv:Nat->Value}{v:Value}{n:Nat}{f:Nat->zv}(h:qm w bs kb kv v n f)(t:zF S w w')(hs:∀k,zA4 bs kb n f k->¬S k):qm w' bs kb kv v n f:=by
 obtain⟨h0,a,cap,hv,aA,hc⟩:=h;refine⟨h0,a,cap,hv,aA,fun hn=>?_⟩;obtain⟨off,ha,h3⟩:=hc hn;exact⟨off,ha,fun i hi=>(h3 i hi).zPF t (hs _ (Or.inl ⟨hn,rfl⟩)) (fun h=>hs _ (Or.inr ⟨i,hi,h,rfl⟩))⟩
theorem qm.zO9{w w':World}{bs:Nat}{kb:Nat->Nat}{kv:Nat->Value}{v:Value}{n:Nat}{f:Nat->zv}(h:qm w bs kb kv v n f)(t:Below w.heap.size w w'):qm w' bs kb kv v n f:=
 h.zPF (zF.zPB (S:=fun _=>False) t) (fun _ _ h=>h)
theorem qm.at{w:World}{bs:Nat}{kb:Nat->Nat}{kv:Nat->Value}{v:Value}{n:Nat}{f:Nat->zv}(h:qm w bs kb kv v n f){lo hi:Nat}(hb:∀k,zA4 bs kb n f k->lo<=k/\k<hi):yY w lo hi v n f:=by
 obtain⟨h0,a,cap,hv,aA,hc⟩:=h;refine⟨h0,a,cap,hv,aA,fun hn=>?_⟩;obtain⟨off,ha,h3⟩:=hc hn;have hx:=hb _ (Or.inl ⟨hn,rfl⟩);exact⟨bs,off,ha,hx.1,hx.2,fun i hi=>⟨_,(h3 i hi).cells (fun h=>hb _ (Or.inr ⟨i,hi,h,rfl⟩))⟩⟩
structure zCn (wr:World) (bs n k:Nat) (f:Nat->zv) (kb:Nat->Nat) (kv:Nat->Value):Prop where
 rows:∀j,j<n->yR wr bs (0+j*6) (kb j) (kv j) (if j<k then f j else zJA)
 zPJ:zAG kb k f
 zPM:∀j,j<k->0<(f j).dn->bs<kb j/\kb j<wr.heap.size
theorem zCn.zO9{wr w':World}{bs n k:Nat}{f:Nat->zv}{kb:Nat->Nat}{kv:Nat->Value}(h:zCn wr bs n k f kb kv)(t:Below wr.heap.size wr w'):zCn w' bs n k f kb kv:=
 ⟨fun j hj=>(h.rows j hj).zO9 t,h.zPJ,fun j hj h0=>by have:=h.zPM j hj h0;have:=t.size;omega⟩
theorem zCn.next{wr w1:World}{bs n k b:Nat}{f:Nat->zv}{kb:Nat->Nat}{kv:Nat->Value}{v:Value}(h:zCn wr bs n k f kb kv)(hk:k<n)(dA:bs<wr.heap.size)(t:Below wr.heap.size wr w1)
  (hp:zj w1 b v (f k).dn (f k).ds (f k).db) (hb:wr.heap.size<=b) (cA:b<w1.heap.size) (hs:(f k).name.size<=maxLen) :
  zCn ((((((w1.setCell ⟨bs,0+k*6,none⟩ (.string (f k).name)).setCell ⟨bs,0+k*6+1,none⟩ (.int .i64 (f k).origin)).setCell ⟨bs,0+k*6+2,none⟩ (.int .i64 (f k).zPH)).setCell ⟨bs,0+k*6+3,none⟩ (.int .i64 (f k).rs)).setCell ⟨bs,0+k*6+4,none⟩ (.int .i64 (f k).rb)).setCell ⟨bs,0+k*6+5,none⟩ v) bs n (k+1) f (fun j=>if j=k then b else kb j) (fun j=>if j=k then v else kv j):=by
 have h':=h.zO9 t;refine⟨fun j hj=>?_,fun i j hi hj bA h1 h2=>?_,fun j hj h0=>?_⟩
 ·have aA:=h'.rows j hj;by_cases e:j=k
  ·subst e;simp only[if_true];rw[if_pos (by omega)];refine⟨?_,?_,?_,?_,?_,?_,?_,hs,fun _=>by omega⟩
   ·exact(((((aA.c0.set _).zPA _ (Or.inr (by omega))).zPA _ (Or.inr (by omega))).zPA _ (Or.inr (by omega))).zPA _ (Or.inr (by omega))).zPA _ (Or.inr (by omega))
   ·exact(((((aA.c1.zPA _ (Or.inr (by omega))).set _).zPA _ (Or.inr (by omega))).zPA _ (Or.inr (by omega))).zPA _ (Or.inr (by omega))).zPA _ (Or.inr (by omega))
   ·exact(((((aA.c2.zPA _ (Or.inr (by omega))).zPA _ (Or.inr (by omega))).set _).zPA _ (Or.inr (by omega))).zPA _ (Or.inr (by omega))).zPA _ (Or.inr (by omega))
   ·exact(((((aA.c3.zPA _ (Or.inr (by omega))).zPA _ (Or.inr (by omega))).zPA _ (Or.inr (by omega))).set _).zPA _ (Or.inr (by omega))).zPA _ (Or.inr (by omega))
   ·exact(((((aA.c4.zPA _ (Or.inr (by omega))).zPA _ (Or.inr (by omega))).zPA _ (Or.inr (by omega))).zPA _ (Or.inr (by omega))).set _).zPA _ (Or.inr (by omega))
   ·exact(((((aA.c5.zPA _ (Or.inr (by omega))).zPA _ (Or.inr (by omega))).zPA _ (Or.inr (by omega))).zPA _ (Or.inr (by omega))).zPA _ (Or.inr (by omega))).set _
   ·exact(((((hp.put _ (by omega)).put _ (by omega)).put _ (by omega)).put _ (by omega)).put _ (by omega)).put _ (by omega)
  ·simp only[if_neg e];have es:(if j<k+1 then f j else zJA)=if j<k then f j else zJA:=by
    by_cases e2:j<k
    ·rw[if_pos e2,if_pos (by omega)]
    ·rw[if_neg e2,if_neg (by omega)]
   rw[es];refine⟨?_,?_,?_,?_,?_,?_,?_,aA.zPN,aA.zPJ⟩
   ·exact(((((aA.c0.zPA _ (Or.inr (by omega))).zPA _ (Or.inr (by omega))).zPA _ (Or.inr (by omega))).zPA _ (Or.inr (by omega))).zPA _ (Or.inr (by omega))).zPA _ (Or.inr (by omega))
   ·exact(((((aA.c1.zPA _ (Or.inr (by omega))).zPA _ (Or.inr (by omega))).zPA _ (Or.inr (by omega))).zPA _ (Or.inr (by omega))).zPA _ (Or.inr (by omega))).zPA _ (Or.inr (by omega))
   ·exact(((((aA.c2.zPA _ (Or.inr (by omega))).zPA _ (Or.inr (by omega))).zPA _ (Or.inr (by omega))).zPA _ (Or.inr (by omega))).zPA _ (Or.inr (by omega))).zPA _ (Or.inr (by omega))
   ·exact(((((aA.c3.zPA _ (Or.inr (by omega))).zPA _ (Or.inr (by omega))).zPA _ (Or.inr (by omega))).zPA _ (Or.inr (by omega))).zPA _ (Or.inr (by omega))).zPA _ (Or.inr (by omega))
   ·exact(((((aA.c4.zPA _ (Or.inr (by omega))).zPA _ (Or.inr (by omega))).zPA _ (Or.inr (by omega))).zPA _ (Or.inr (by omega))).zPA _ (Or.inr (by omega))).zPA _ (Or.inr (by omega))
   ·exact(((((aA.c5.zPA _ (Or.inr (by omega))).zPA _ (Or.inr (by omega))).zPA _ (Or.inr (by omega))).zPA _ (Or.inr (by omega))).zPA _ (Or.inr (by omega))).zPA _ (Or.inr (by omega))
   ·refine(((((aA.zPK.zPF (zF.put _ _ _ _) ?_).zPF (zF.put _ _ _ _) ?_).zPF (zF.put _ _ _ _) ?_).zPF (zF.put _ _ _ _) ?_).zPF (zF.put _ _ _ _) ?_).zPF (zF.put _ _ _ _) ?_
    all_goals exact fun h0 hx=>aA.zPJ h0 hx
 ·show(if i=k then b else kb i)≠(if j=k then b else kb j);by_cases e1:i=k
  ·by_cases e2:j=k
   ·omega
   ·rw[if_pos e1,if_neg e2];have:=h.zPM j (by omega) h2;omega
  ·by_cases e2:j=k
   ·rw[if_neg e1,if_pos e2];have:=h.zPM i (by omega) h1;omega
   ·rw[if_neg e1,if_neg e2];exact h.zPJ i j (by omega) (by omega) bA h1 h2
 ·simp only[World.size_setCell];by_cases e:j=k
  ·rw[if_pos e];omega
  ·rw[if_neg e];have:=h'.zPM j (by omega) h0;omega
theorem zGd:(Tryz.prog.info? 67).map (fun i=>(i.zero,i.size,i.bytes))=some (some (.agg #[.string ⟨#[]⟩,.int .i64 0,.int .i64 0,.int .i64 0,.int .i64 0,.slice none 0 0]),6,72):=by kernel_rfl
theorem zLB{w:World}{bs n j:Nat}(hj:j<n)(aA:bs=w.heap.size):yR (w.alloc (.cells (zHN #[.string ⟨#[]⟩,.int .i64 0,.int .i64 0,.int .i64 0,.int .i64 0,.slice none 0 0] n) 67)) bs (0+j*6) 0 (.slice none 0 0) zJA:=by
 subst aA;have c0:=qo w #[.string ⟨#[]⟩,.int .i64 0,.int .i64 0,.int .i64 0,.int .i64 0,.slice none 0 0] n j 0 67 hj (by simp);have c1:=qo w #[.string ⟨#[]⟩,.int .i64 0,.int .i64 0,.int .i64 0,.int .i64 0,.slice none 0 0] n j 1 67 hj (by simp);have c2:=qo w #[.string ⟨#[]⟩,.int .i64 0,.int .i64 0,.int .i64 0,.int .i64 0,.slice none 0 0] n j 2 67 hj (by simp);have c3:=qo w #[.string ⟨#[]⟩,.int .i64 0,.int .i64 0,.int .i64 0,.int .i64 0,.slice none 0 0] n j 3 67 hj (by simp);have c4:=qo w #[.string ⟨#[]⟩,.int .i64 0,.int .i64 0,.int .i64 0,.int .i64 0,.slice none 0 0] n j 4 67 hj (by simp);have c5:=qo w #[.string ⟨#[]⟩,.int .i64 0,.int .i64 0,.int .i64 0,.int .i64 0,.slice none 0 0] n j 5 67 hj (by simp);refine⟨?_,?_,?_,?_,?_,?_,⟨Nat.zero_le _,none,0,rfl,Nat.le_refl _,fun h=>absurd h (Nat.lt_irrefl _)⟩,Nat.zero_le _,fun h=>absurd h (Nat.lt_irrefl _)⟩
 ·show zQ _ _ _ (.string ⟨#[]⟩);simpa using c0
 ·show zQ _ _ _ (.int .i64 0);simpa using c1
 ·show zQ _ _ _ (.int .i64 0);simpa using c2
 ·show zQ _ _ _ (.int .i64 0);simpa using c3
 ·show zQ _ _ _ (.int .i64 0);simpa using c4
 ·show zQ _ _ _ (.slice none 0 0);simpa using c5
def zGB:zY:={id:=0,name:=⟨#[]⟩,set:=⟨#[]⟩,zPH:=0,time:=0,rs:=0,rb:=0,dn:=0,ds:=fun _=>0,db:=fun _=>0}
structure qe (w:World) (bs o kb:Nat) (kv:Value) (s:zY):Prop where
 c0:zQ w bs o (.int .i64 s.id)
 c1:zQ w bs (o+1) (.string s.name)
 c2:zQ w bs (o+2) (.string s.set)
 c3:zQ w bs (o+3) (.int .i64 s.zPH)
 c4:zQ w bs (o+4) (.int .i64 s.time)
 c5:zQ w bs (o+5) (.int .i64 s.rs)
 c6:zQ w bs (o+6) (.int .i64 s.rb)
 c7:zQ w bs (o+7) kv
 zPK:zj w kb kv s.dn s.ds s.db
 zPN:s.name.size<=maxLen/\s.set.size<=maxLen
 zPJ:0<s.dn->kb≠bs
theorem qe.zPF{S:Nat->Prop}{w w':World}{bs o kb:Nat}{kv:Value}{s:zY}(h:qe w bs o kb kv s)(t:zF S w w')(h1:¬S bs)(h2:0<s.dn->¬S kb):qe w' bs o kb kv s:=
 ⟨h.c0.zPF t h1,h.c1.zPF t h1,h.c2.zPF t h1,h.c3.zPF t h1,h.c4.zPF t h1,h.c5.zPF t h1,h.c6.zPF t h1,h.c7.zPF t h1,h.zPK.zPF t h2,h.zPN,h.zPJ⟩
theorem qe.zO9{w w':World}{bs o kb:Nat}{kv:Value}{s:zY}(h:qe w bs o kb kv s)(t:Below w.heap.size w w'):qe w' bs o kb kv s:=
 h.zPF (zF.zPB (S:=fun _=>False) t) (fun h=>h) (fun _ h=>h)
theorem qe.cells{w:World}{bs o kb:Nat}{kv:Value}{s:zY}(h:qe w bs o kb kv s){lo hi:Nat}(hb:0<s.dn->lo<=kb/\kb<hi):ye w bs o lo hi kv s:=
 ⟨h.c0.1,h.c1.1,h.c2.1,h.c3.1,h.c4.1,h.c5.1,h.c6.1,h.c7.1,h.zPK.at hb,h.zPN⟩
theorem qe.deadLt{w:World}{bs o kb:Nat}{kv:Value}{s:zY}(h:qe w bs o kb kv s)(h0:0<s.dn):kb<w.heap.size:=by
 obtain⟨_,_,_,_,_,h4⟩:=h.zPK;obtain⟨o,_,h5⟩:=h4 h0;exact(h5 0 h0).1.lt
def qI(w:World)(bs:Nat)(kb:Nat->Nat)(kv:Nat->Value)(v:Value)(n:Nat)(f:Nat->zY):Prop:=
 n<=maxLen/\∃a cap,v = .slice a n cap/\n<=cap/\(0<n->∃off,a=some ⟨bs,off,none⟩/\∀i,i<n->qe w bs (off+i*8) (kb i) (kv i) (f i))
def yq(bs:Nat)(kb:Nat->Nat)(n:Nat)(f:Nat->zY)(k:Nat):Prop:=(0<n/\k=bs)\/∃i,i<n/\0<(f i).dn/\k=kb i
def qw(kb:Nat->Nat)(n:Nat)(f:Nat->zY):Prop:=∀i j,i<n->j<n->i≠j->0<(f i).dn->0<(f j).dn->kb i≠kb j
theorem qI.lt{w:World}{bs:Nat}{kb:Nat->Nat}{kv:Nat->Value}{v:Value}{n:Nat}{f:Nat->zY}(h:qI w bs kb kv v n f){k:Nat}(hk:yq bs kb n f k):k<w.heap.size:=by
 obtain⟨_,a,cap,_,_,hc⟩:=h;rcases hk with⟨h0,rfl⟩ | ⟨i,hi,h0,rfl⟩
 ·obtain⟨off,_,h3⟩:=hc h0;exact(h3 0 h0).c0.lt
 ·obtain⟨off,_,h3⟩:=hc (by omega);exact(h3 i hi).deadLt h0
theorem qI.zPF{S:Nat->Prop}{w w':World}{bs:Nat}{kb:Nat->Nat}{kv:Nat->Value}{v:Value}{n:Nat}{f:Nat->zY}(h:qI w bs kb kv v n f)(t:zF S w w')(hs:∀k,yq bs kb n f k->¬S k):qI w' bs kb kv v n f:=by
 obtain⟨h0,a,cap,hv,aA,hc⟩:=h;refine⟨h0,a,cap,hv,aA,fun hn=>?_⟩;obtain⟨off,ha,h3⟩:=hc hn;exact⟨off,ha,fun i hi=>(h3 i hi).zPF t (hs _ (Or.inl ⟨hn,rfl⟩)) (fun h=>hs _ (Or.inr ⟨i,hi,h,rfl⟩))⟩
theorem qI.zO9{w w':World}{bs:Nat}{kb:Nat->Nat}{kv:Nat->Value}{v:Value}{n:Nat}{f:Nat->zY}(h:qI w bs kb kv v n f)(t:Below w.heap.size w w'):qI w' bs kb kv v n f:=
 h.zPF (zF.zPB (S:=fun _=>False) t) (fun _ _ h=>h)
theorem qI.at{w:World}{bs:Nat}{kb:Nat->Nat}{kv:Nat->Value}{v:Value}{n:Nat}{f:Nat->zY}(h:qI w bs kb kv v n f){lo hi:Nat}(hb:∀k,yq bs kb n f k->lo<=k/\k<hi):qf w lo hi v n f:=by
 obtain⟨h0,a,cap,hv,aA,hc⟩:=h;refine⟨h0,a,cap,hv,aA,fun hn=>?_⟩;obtain⟨off,ha,h3⟩:=hc hn;have hx:=hb _ (Or.inl ⟨hn,rfl⟩);exact⟨bs,off,ha,hx.1,hx.2,fun i hi=>⟨_,(h3 i hi).cells (fun h=>hb _ (Or.inr ⟨i,hi,h,rfl⟩))⟩⟩
structure zBp (wr:World) (bs n k:Nat) (f:Nat->zY) (kb:Nat->Nat) (kv:Nat->Value):Prop where
 rows:∀j,j<n->qe wr bs (0+j*8) (kb j) (kv j) (if j<k then f j else zGB)
 zPJ:qw kb k f
 zPM:∀j,j<k->0<(f j).dn->bs<kb j/\kb j<wr.heap.size
theorem zBp.zO9{wr w':World}{bs n k:Nat}{f:Nat->zY}{kb:Nat->Nat}{kv:Nat->Value}(h:zBp wr bs n k f kb kv)(t:Below wr.heap.size wr w'):zBp w' bs n k f kb kv:=
 ⟨fun j hj=>(h.rows j hj).zO9 t,h.zPJ,fun j hj h0=>by have:=h.zPM j hj h0;have:=t.size;omega⟩
theorem zBp.next{wr w1:World}{bs n k b:Nat}{f:Nat->zY}{kb:Nat->Nat}{kv:Nat->Value}{v:Value}(h:zBp wr bs n k f kb kv)(hk:k<n)(dA:bs<wr.heap.size)(t:Below wr.heap.size wr w1)
  (hp:zj w1 b v (f k).dn (f k).ds (f k).db) (hb:wr.heap.size<=b) (cA:b<w1.heap.size) (hs:(f k).name.size<=maxLen/\(f k).set.size<=maxLen) :
  zBp ((((((((w1.setCell ⟨bs,0+k*8,none⟩ (.int .i64 (f k).id)).setCell ⟨bs,0+k*8+1,none⟩ (.string (f k).name)).setCell ⟨bs,0+k*8+2,none⟩ (.string (f k).set)).setCell ⟨bs,0+k*8+3,none⟩ (.int .i64 (f k).zPH)).setCell ⟨bs,0+k*8+4,none⟩ (.int .i64 (f k).time)).setCell ⟨bs,0+k*8+5,none⟩ (.int .i64 (f k).rs)).setCell ⟨bs,0+k*8+6,none⟩ (.int .i64 (f k).rb)).setCell ⟨bs,0+k*8+7,none⟩ v) bs n (k+1) f (fun j=>if j=k then b else kb j) (fun j=>if j=k then v else kv j):=by
 have h':=h.zO9 t;refine⟨fun j hj=>?_,fun i j hi hj bA h1 h2=>?_,fun j hj h0=>?_⟩
 ·have aA:=h'.rows j hj;by_cases e:j=k
  ·subst e;simp only[if_true];rw[if_pos (by omega)];refine⟨?_,?_,?_,?_,?_,?_,?_,?_,?_,hs,fun _=>by omega⟩
   ·exact(((((((aA.c0.set _).zPA _ (Or.inr (by omega))).zPA _ (Or.inr (by omega))).zPA _ (Or.inr (by omega))).zPA _ (Or.inr (by omega))).zPA _ (Or.inr (by omega))).zPA _ (Or.inr (by omega))).zPA _ (Or.inr (by omega))
   ·exact(((((((aA.c1.zPA _ (Or.inr (by omega))).set _).zPA _ (Or.inr (by omega))).zPA _ (Or.inr (by omega))).zPA _ (Or.inr (by omega))).zPA _ (Or.inr (by omega))).zPA _ (Or.inr (by omega))).zPA _ (Or.inr (by omega))
   ·exact(((((((aA.c2.zPA _ (Or.inr (by omega))).zPA _ (Or.inr (by omega))).set _).zPA _ (Or.inr (by omega))).zPA _ (Or.inr (by omega))).zPA _ (Or.inr (by omega))).zPA _ (Or.inr (by omega))).zPA _ (Or.inr (by omega))
   ·exact(((((((aA.c3.zPA _ (Or.inr (by omega))).zPA _ (Or.inr (by omega))).zPA _ (Or.inr (by omega))).set _).zPA _ (Or.inr (by omega))).zPA _ (Or.inr (by omega))).zPA _ (Or.inr (by omega))).zPA _ (Or.inr (by omega))
   ·exact(((((((aA.c4.zPA _ (Or.inr (by omega))).zPA _ (Or.inr (by omega))).zPA _ (Or.inr (by omega))).zPA _ (Or.inr (by omega))).set _).zPA _ (Or.inr (by omega))).zPA _ (Or.inr (by omega))).zPA _ (Or.inr (by omega))
   ·exact(((((((aA.c5.zPA _ (Or.inr (by omega))).zPA _ (Or.inr (by omega))).zPA _ (Or.inr (by omega))).zPA _ (Or.inr (by omega))).zPA _ (Or.inr (by omega))).set _).zPA _ (Or.inr (by omega))).zPA _ (Or.inr (by omega))
   ·exact(((((((aA.c6.zPA _ (Or.inr (by omega))).zPA _ (Or.inr (by omega))).zPA _ (Or.inr (by omega))).zPA _ (Or.inr (by omega))).zPA _ (Or.inr (by omega))).zPA _ (Or.inr (by omega))).set _).zPA _ (Or.inr (by omega))
   ·exact(((((((aA.c7.zPA _ (Or.inr (by omega))).zPA _ (Or.inr (by omega))).zPA _ (Or.inr (by omega))).zPA _ (Or.inr (by omega))).zPA _ (Or.inr (by omega))).zPA _ (Or.inr (by omega))).zPA _ (Or.inr (by omega))).set _
   ·exact(((((((hp.put _ (by omega)).put _ (by omega)).put _ (by omega)).put _ (by omega)).put _ (by omega)).put _ (by omega)).put _ (by omega)).put _ (by omega)
  ·simp only[if_neg e];have es:(if j<k+1 then f j else zGB)=if j<k then f j else zGB:=by
    by_cases e2:j<k
    ·rw[if_pos e2,if_pos (by omega)]
    ·rw[if_neg e2,if_neg (by omega)]
   rw[es];refine⟨?_,?_,?_,?_,?_,?_,?_,?_,?_,aA.zPN,aA.zPJ⟩
   ·exact(((((((aA.c0.zPA _ (Or.inr (by omega))).zPA _ (Or.inr (by omega))).zPA _ (Or.inr (by omega))).zPA _ (Or.inr (by omega))).zPA _ (Or.inr (by omega))).zPA _ (Or.inr (by omega))).zPA _ (Or.inr (by omega))).zPA _ (Or.inr (by omega))
   ·exact(((((((aA.c1.zPA _ (Or.inr (by omega))).zPA _ (Or.inr (by omega))).zPA _ (Or.inr (by omega))).zPA _ (Or.inr (by omega))).zPA _ (Or.inr (by omega))).zPA _ (Or.inr (by omega))).zPA _ (Or.inr (by omega))).zPA _ (Or.inr (by omega))
   ·exact(((((((aA.c2.zPA _ (Or.inr (by omega))).zPA _ (Or.inr (by omega))).zPA _ (Or.inr (by omega))).zPA _ (Or.inr (by omega))).zPA _ (Or.inr (by omega))).zPA _ (Or.inr (by omega))).zPA _ (Or.inr (by omega))).zPA _ (Or.inr (by omega))
   ·exact(((((((aA.c3.zPA _ (Or.inr (by omega))).zPA _ (Or.inr (by omega))).zPA _ (Or.inr (by omega))).zPA _ (Or.inr (by omega))).zPA _ (Or.inr (by omega))).zPA _ (Or.inr (by omega))).zPA _ (Or.inr (by omega))).zPA _ (Or.inr (by omega))
   ·exact(((((((aA.c4.zPA _ (Or.inr (by omega))).zPA _ (Or.inr (by omega))).zPA _ (Or.inr (by omega))).zPA _ (Or.inr (by omega))).zPA _ (Or.inr (by omega))).zPA _ (Or.inr (by omega))).zPA _ (Or.inr (by omega))).zPA _ (Or.inr (by omega))
   ·exact(((((((aA.c5.zPA _ (Or.inr (by omega))).zPA _ (Or.inr (by omega))).zPA _ (Or.inr (by omega))).zPA _ (Or.inr (by omega))).zPA _ (Or.inr (by omega))).zPA _ (Or.inr (by omega))).zPA _ (Or.inr (by omega))).zPA _ (Or.inr (by omega))
   ·exact(((((((aA.c6.zPA _ (Or.inr (by omega))).zPA _ (Or.inr (by omega))).zPA _ (Or.inr (by omega))).zPA _ (Or.inr (by omega))).zPA _ (Or.inr (by omega))).zPA _ (Or.inr (by omega))).zPA _ (Or.inr (by omega))).zPA _ (Or.inr (by omega))
   ·exact(((((((aA.c7.zPA _ (Or.inr (by omega))).zPA _ (Or.inr (by omega))).zPA _ (Or.inr (by omega))).zPA _ (Or.inr (by omega))).zPA _ (Or.inr (by omega))).zPA _ (Or.inr (by omega))).zPA _ (Or.inr (by omega))).zPA _ (Or.inr (by omega))
   ·refine(((((((aA.zPK.zPF (zF.put _ _ _ _) ?_).zPF (zF.put _ _ _ _) ?_).zPF (zF.put _ _ _ _) ?_).zPF (zF.put _ _ _ _) ?_).zPF (zF.put _ _ _ _) ?_).zPF (zF.put _ _ _ _) ?_).zPF (zF.put _ _ _ _) ?_).zPF (zF.put _ _ _ _) ?_
    all_goals exact fun h0 hx=>aA.zPJ h0 hx
 ·show(if i=k then b else kb i)≠(if j=k then b else kb j);by_cases e1:i=k
  ·by_cases e2:j=k
   ·omega
   ·rw[if_pos e1,if_neg e2];have:=h.zPM j (by omega) h2;omega
  ·by_cases e2:j=k
   ·rw[if_neg e1,if_pos e2];have:=h.zPM i (by omega) h1;omega
   ·rw[if_neg e1,if_neg e2];exact h.zPJ i j (by omega) (by omega) bA h1 h2
 ·simp only[World.size_setCell];by_cases e:j=k
  ·rw[if_pos e];omega
  ·rw[if_neg e];have:=h'.zPM j (by omega) h0;omega
theorem zDq:(Tryz.prog.info? 99).map (fun i=>(i.zero,i.size,i.bytes))=some (some (.agg #[.int .i64 0,.string ⟨#[]⟩,.string ⟨#[]⟩,.int .i64 0,.int .i64 0,.int .i64 0,.int .i64 0,.slice none 0 0]),8,96):=by kernel_rfl
theorem zJ8{w:World}{bs n j:Nat}(hj:j<n)(aA:bs=w.heap.size):qe (w.alloc (.cells (zHN #[.int .i64 0,.string ⟨#[]⟩,.string ⟨#[]⟩,.int .i64 0,.int .i64 0,.int .i64 0,.int .i64 0,.slice none 0 0] n) 99)) bs (0+j*8) 0 (.slice none 0 0) zGB:=by
 subst aA;have c0:=qo w #[.int .i64 0,.string ⟨#[]⟩,.string ⟨#[]⟩,.int .i64 0,.int .i64 0,.int .i64 0,.int .i64 0,.slice none 0 0] n j 0 99 hj (by simp);have c1:=qo w #[.int .i64 0,.string ⟨#[]⟩,.string ⟨#[]⟩,.int .i64 0,.int .i64 0,.int .i64 0,.int .i64 0,.slice none 0 0] n j 1 99 hj (by simp);have c2:=qo w #[.int .i64 0,.string ⟨#[]⟩,.string ⟨#[]⟩,.int .i64 0,.int .i64 0,.int .i64 0,.int .i64 0,.slice none 0 0] n j 2 99 hj (by simp);have c3:=qo w #[.int .i64 0,.string ⟨#[]⟩,.string ⟨#[]⟩,.int .i64 0,.int .i64 0,.int .i64 0,.int .i64 0,.slice none 0 0] n j 3 99 hj (by simp);have c4:=qo w #[.int .i64 0,.string ⟨#[]⟩,.string ⟨#[]⟩,.int .i64 0,.int .i64 0,.int .i64 0,.int .i64 0,.slice none 0 0] n j 4 99 hj (by simp);have c5:=qo w #[.int .i64 0,.string ⟨#[]⟩,.string ⟨#[]⟩,.int .i64 0,.int .i64 0,.int .i64 0,.int .i64 0,.slice none 0 0] n j 5 99 hj (by simp);have c6:=qo w #[.int .i64 0,.string ⟨#[]⟩,.string ⟨#[]⟩,.int .i64 0,.int .i64 0,.int .i64 0,.int .i64 0,.slice none 0 0] n j 6 99 hj (by simp);have c7:=qo w #[.int .i64 0,.string ⟨#[]⟩,.string ⟨#[]⟩,.int .i64 0,.int .i64 0,.int .i64 0,.int .i64 0,.slice none 0 0] n j 7 99 hj (by simp);refine⟨?_,?_,?_,?_,?_,?_,?_,?_,⟨Nat.zero_le _,none,0,rfl,Nat.le_refl _,fun h=>absurd h (Nat.lt_irrefl _)⟩,⟨Nat.zero_le _,Nat.zero_le _⟩,fun h=>absurd h (Nat.lt_irrefl _)⟩
 ·show zQ _ _ _ (.int .i64 0);simpa using c0
 ·show zQ _ _ _ (.string ⟨#[]⟩);simpa using c1
 ·show zQ _ _ _ (.string ⟨#[]⟩);simpa using c2
 ·show zQ _ _ _ (.int .i64 0);simpa using c3
 ·show zQ _ _ _ (.int .i64 0);simpa using c4
 ·show zQ _ _ _ (.int .i64 0);simpa using c5
 ·show zQ _ _ _ (.int .i64 0);simpa using c6
 ·show zQ _ _ _ (.slice none 0 0);simpa using c7
def qi(w:World)(S:Nat->Prop)(v0 v1:Value)(p:zN):Prop:=
 ∃(bs hb:Nat) (kb:Nat->Nat) (kv:Nat->Value),qO w bs kb kv v0 p.n p.s/\yJ kb p.n p.s/\qd w hb v1 p.hn p.h/\(0<p.hn->¬yV bs kb p.n p.s hb)/\
  ∀k,yV bs kb p.n p.s k\/(0<p.hn/\k=hb)->S k
theorem qF.isIn{w:World}{lo hi:Nat}{S:Nat->Prop}{v0 v1:Value}{p:zN}(h:qF w lo hi v0 v1 p)(hS:∀k,lo<=k->k<hi->S k):qi w S v0 v1 p:=by
 obtain⟨bs,hb,kb,kv,h1,h2,h3,h4,h5⟩:=h;exact⟨bs,hb,kb,kv,h1,h2,h3,h4,fun k hk=>hS k (h5 k hk).1 (h5 k hk).2⟩
theorem qi.own{w:World}{lo hi:Nat}{S:Nat->Prop}{v0 v1:Value}{p:zN}(h:qi w S v0 v1 p)(hS:∀k,S k->lo<=k/\k<hi):qF w lo hi v0 v1 p:=by
 obtain⟨bs,hb,kb,kv,h1,h2,h3,h4,h5⟩:=h;exact⟨bs,hb,kb,kv,h1,h2,h3,h4,fun k hk=>hS k (h5 k hk)⟩
theorem qi.mono{w:World}{S T:Nat->Prop}{v0 v1:Value}{p:zN}(h:qi w S v0 v1 p)(hS:∀k,S k->T k):qi w T v0 v1 p:=by
 obtain⟨bs,hb,kb,kv,h1,h2,h3,h4,h5⟩:=h;exact⟨bs,hb,kb,kv,h1,h2,h3,h4,fun k hk=>hS k (h5 k hk)⟩
theorem qi.zO9{w w':World}{S:Nat->Prop}{v0 v1:Value}{p:zN}(h:qi w S v0 v1 p)(t:Below w.heap.size w w'):qi w' S v0 v1 p:=by
 obtain⟨bs,hb,kb,kv,h1,h2,h3,h4,h5⟩:=h;exact⟨bs,hb,kb,kv,h1.zO9 t,h2,h3.zO9 t,h4,h5⟩
theorem qi.zPF{S T:Nat->Prop}{w w':World}{v0 v1:Value}{p:zN}(h:qi w S v0 v1 p)(t:zF T w w')(hs:∀k,S k->¬T k):qi w' S v0 v1 p:=by
 obtain⟨bs,hb,kb,kv,h1,h2,h3,h4,h5⟩:=h;have out:∀k,yV bs kb p.n p.s k\/(0<p.hn/\k=hb)->¬T k:=fun k hk=>hs k (h5 k hk)
 exact⟨bs,hb,kb,kv,h1.zPF t (fun h0=>out _ (Or.inl (Or.inl ⟨h0,rfl⟩))) (fun i hi h=>out _ (Or.inl (Or.inr ⟨i,hi,h,rfl⟩))),h2,h3.zPF t (fun h0=>out _ (Or.inr ⟨h0,rfl⟩)),h4,h5⟩
theorem qi.at{w:World}{S:Nat->Prop}{lo hi:Nat}{v0 v1:Value}{p:zN}(h:qi w S v0 v1 p)(hS:∀k,S k->lo<=k/\k<hi):qS w lo hi v0 v1 p:=(h.own hS).at
end Go.Proofs.YtmgeglgboadfiaaGreatDoor
