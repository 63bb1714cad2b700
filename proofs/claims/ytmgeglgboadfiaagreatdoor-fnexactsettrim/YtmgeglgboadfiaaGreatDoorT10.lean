/- The map of homes: its keys, how many there are, what is looked up in it (no law is proved here). -/
import Derived.Test.YtmgeglgboadfiaaGreatDoorT9
import Derived.Deep.LoopGhost
import Derived.Shelf.Abstract
set_option linter.unusedVariables false
set_option maxRecDepth 20000
set_option maxHeartbeats 4000000
namespace Go.Proofs.YtmgeglgboadfiaaGreatDoor
open Go.RowKit Go.Maps
theorem zHc (W : zH) (m : zEp) : (yD W m).length <= 73 := by
  unfold yD zAO yU;exact Nat.le_trans (List.length_filter_le _ _) (qP _ _ _)
theorem zJd (W : zH) : ∀ k, (zn W k).length <= 73 * k
  | 0 => by simp[zn]
  | k + 1 => by
    have h1 := zJd W k;have h2 := zHc W (zO W k);unfold zn;rw[List.length_append];omega
theorem zJE (W : zH) {k : Nat} : ∀ {n : Nat}, k <= n -> ∃ l, zn W n = zn W k ++ l
  | 0, h => ⟨[], by obtain rfl : k = 0 := by omega
                    simp⟩
  | n + 1, h => by
    by_cases e : k = n + 1
    · subst e;exact ⟨[], by simp⟩
    · obtain ⟨l, hl⟩ := zJE W (k := k) (n := n) (by omega)
      exact ⟨l ++ yD W (zO W n), by rw[show zn W (n + 1) = zn W n ++ yD W (zO W n) from rfl, hl, List.append_assoc]⟩
theorem zPh (W : zH) {k n j : Nat} (hk : k < n) (hj : j < (yD W (zO W k)).length) : (zn W k).length + j < (zn W n).length /\ (zn W n).getD ((zn W k).length + j) (0, 0) = (yD W (zO W k)).getD j (0, 0) := by
  obtain ⟨l, hl⟩ := zJE W (k := k + 1) (n := n) (by omega);rw[hl, show zn W (k + 1) = zn W k ++ yD W (zO W k) from rfl];constructor
  · simp only[List.length_append];omega
  · rw[List.getD_eq_getElem?_getD, List.getD_eq_getElem?_getD, List.append_assoc, List.getElem?_append_right (by omega), show (zn W k).length + j - (zn W k).length = j by omega, List.getElem?_append_left hj]
def zLE (x : Int × Int) : Value := .agg #[.int .i64 x.1, .int .i64 x.2]
/-- The keys of the homes, one behind the other. -/
structure ym (W : zH) (key : Nat -> Lit) : Prop where
  ok : zDT key
  at_ : ∀ i, i < (zn W (zq W)).length -> keyOf Tryz.prog 61 (zLE ((zn W (zq W)).getD i (0, 0))) = some (key i)
theorem zKU {W : zH} (hR : zv W.zRQ) (hT : ∀ i, i < zq W -> qG W.zRQ (zO W i).rs (zO W i).rb) {x : Int × Int} (hx : x ∈ zn W (zq W)) : zr W.zRQ x.1 x.2 := by
  obtain ⟨i, hi, h⟩ := zDP.1 hx;unfold yD zAO yU at h;exact (zAX hR (hT i hi) (List.mem_filter.1 h).1).1
theorem zPV {l : List (Int × Int)} {i : Nat} (h : i < l.length) : l.getD i (0, 0) ∈ l := by
  rw[List.getD_eq_getElem?_getD, List.getElem?_eq_getElem h, Option.getD_some];exact List.getElem_mem h
theorem zOS {W : zH} (hR : zv W.zRQ) (hT : ∀ i, i < zq W -> qG W.zRQ (zO W i).rs (zO W i).rb) : ∃ key, ym W key := by
  have aA : ∀ i, ∃ l, WideAt.IsKeyLit l /\ (i < (zn W (zq W)).length -> keyOf Tryz.prog 61 (zLE ((zn W (zq W)).getD i (0, 0))) = some l) := fun i => by
    by_cases hi' : i < (zn W (zq W)).length
    · have hp := zKU hR hT (zPV hi')
      generalize (zn W (zq W)).getD i (0, 0) = x at hp ⊢;have hf := (qU hR hp).1;have bA := hR.1;obtain ⟨h1, h2, h3, h4⟩ := hp;rw[h4]at hf;obtain ⟨f1, f2⟩ := hf;obtain ⟨l, hl⟩ := zQK (x := x.1) (y := x.2) (WalkArith.wf_i64 (by omega)) (WalkArith.wf_i64 (by omega));exact ⟨l, zQq.key hl, fun _ => hl⟩
    · exact ⟨.string [], trivial, fun h => absurd h hi'⟩
  exact ⟨fun i => (aA i).choose, fun i => (aA i).choose_spec.1, fun i => (aA i).choose_spec.2⟩
theorem zOL {x y : Int × Int} (h : zLE x = zLE y) : x = y := by
  unfold zLE at h;simp only[Value.agg.injEq, Array.mk.injEq, List.cons.injEq, Value.int.injEq, true_and, and_true]at h;exact Prod.ext h.1 h.2
theorem ym.same {W : zH} {key : Nat -> Lit} (h : ym W key) {i j : Nat} (hi : i < (zn W (zq W)).length) (hj : j < (zn W (zq W)).length) : key i = key j ↔ (zn W (zq W)).getD i (0, 0) = (zn W (zq W)).getD j (0, 0) := by
  have h1 := h.at_ i hi;have h2 := h.at_ j hj;constructor
  · intro e
    rw[e]at h1;exact zOL (zQq.inj h1 h2)
  · intro e
    rw[e, h2]at h1;exact (Option.some.inj h1).symm
theorem ym.dist {W : zH} {key : Nat -> Lit} (h : ym W key) : zFw (zn W (zq W)).length key ↔ (zn W (zq W)).Nodup := by
  rw[List.Nodup, List.pairwise_iff_getElem];have hg : ∀ i (hi : i < (zn W (zq W)).length), (zn W (zq W)).getD i (0, 0) = (zn W (zq W))[i] := fun i hi => by rw[List.getD_eq_getElem?_getD, List.getElem?_eq_getElem hi, Option.getD_some]
  constructor
  · intro hd i j hi hj aA e
    refine hd j hj i aA ((h.same hi hj).2 ?_);rw[hg i hi, hg j hj];exact e
  · intro hd i hi k hk e
    have := (h.same (by omega) hi).1 e;rw[hg k (by omega), hg i hi]at this;exact hd k i (by omega) hi hk this
/-- The map behind the first p homes. -/
def zJm (key : Nat -> Lit) (p : Nat) : DataW Value := putD key (fun _ => .int .i64 1) p
theorem ym.zRL {W : zH} {key : Nat -> Lit} {p : Nat} (hn : ∀ i, i < p -> key i ≠ key p) (h : ym W key) : (zJm key p).atKey (key p) (.held (.int .i64 0)) = .held (.int .i64 0) := zGh h.ok _ hn _
theorem ym.old {W : zH} {key : Nat -> Lit} {p i : Nat} (hi : i < p) (he : key i = key p) (hd : zFw p key) (h : ym W key) : (zJm key p).atKey (key p) (.held (.int .i64 0)) = .held (.int .i64 1) := by
  rw[<- he];exact zKx h.ok _ _ p i hi (fun j h1 h2 e => hd j h2 i h1 e.symm)
theorem ym.put {W : zH} {key : Nat -> Lit} (h : ym W key) (p : Nat) (v : Value) : ((zJm key p).put (key p) (.held v)).atKey (key p) (.held (.int .i64 0)) = .held v := atKey_put_same (zCQ h.ok _ p).isMap (h.ok p) _ _
theorem ym.not_nodup {W : zH} {key : Nat -> Lit} {p i : Nat} (hi : i < p) (hp : p < (zn W (zq W)).length) (he : key i = key p) (h : ym W key) : ¬ (zn W (zq W)).Nodup := fun hn => h.dist.2 hn p hp i hi he
theorem ym.size {W : zH} {key : Nat -> Lit} (h : ym W key) {p : Nat} (hd : zFw p key) : Maps.size (zJm key p) = p := (zGN h.ok _ p).2.2 hd
theorem zGQ(v0 v1:Value)(lo hi:Nat)(p:zJ)(w:World)(h1:zy w lo hi v0 v1 p) :
  Calls Tryz.prog 227 #[.agg #[v0,v1]] w fun e w'=>e = .returned (.int .i64 (zNU p))/\Below w.heap.size w w':=by
 have Hp:Hid (zy w lo hi v0 v1 p):=h1;obtain⟨⟨m1,a,c,rfl,mc,g1⟩,⟨m2,a',c',rfl,jA,g2⟩⟩:=h1;unfold maxLen at m1 m2;clear g1 g2;have ha:=zC w (.cells #[.slice a p.n c,.slice a' p.hn c'] 33);go_enter Tryz.func227,Tryz.ntmps227;go_wp2_with fail;refine(zAC _ _ lo hi p _ (Hp.out.zRJ ha)).mono ?_;rintro e w1 ⟨⟨t,rfl,ht⟩,aA⟩;have Hx:Hid (zc w1 w.heap.size (.slice a p.n c) (.slice a' p.hn c')):=(zc.zRL w _ _ _).zRJ aA;have cA:=zA ha aA;clear ha aA;by_cases hR:zv p
 ·obtain rfl:t=true:=ht.2 hR;have HR:Hid (zv p):=hR;have dA:(p.n:Int)<=200:=(by have:=hR.1;omega);clear ht hR;obtain⟨⟨y0,y1⟩,⟨y2,y3⟩⟩:=Hx.out;have gA:Hid (zNU p=(roomN p.s p.n:Int)):=if_pos HR.out;have HB:Hid (Below w.heap.size w w1):=cA;go_wp2;clear y0 y1 y2 y3 cA
  go_loopw [3,12] (fun m i wr=>∃k:Nat,k<=p.n/\i = .int .i64 k/\m = .int .i64 (roomN p.s k:Int)/\Below w.heap.size w wr) (fun _ i _=>p.n - (intOf i).toNat)
  case atStart=>exact⟨0,Nat.zero_le _,rfl,rfl,HB.out⟩
  case round=>
   obtain⟨k,hk,rfl,rfl,hb⟩:=hrel;have kA:=zHd p.s k;by_cases fA:k<p.n
   ·have iA:(k:Int)<(p.n:Int):=(by omega);obtain⟨b,off,ka,kc,rfl,hs⟩:=(Hp.out.1.zRJ hb).cells fA;have Hs:Hid (zAm wr b (off+k*3) lo hi ka kc (p.s k)):=hs;obtain⟨q0,q1,q2,_⟩:=hs;go_wp2_with fail;have bA:=zC wr (.cells #[.int .i64 (p.s k).zRU,.slice ka (p.s k).kn kc,.string (p.s k).data] 127);refine(zBe _ _ _ lo hi (p.s k) _ (Hs.out.slot.zRJ bA)).mono ?_;rintro e w2 ⟨⟨t,rfl,ht⟩,aA⟩;have eA:=zA hb (zA bA aA);clear aA q0 q1 q2 Hs bA;by_cases hf:qF (p.s k)
    ·obtain rfl:t=true:=ht.2 hf;have HF:Hid (qF (p.s k)):=hf;clear ht hf;go_wp2;go_roundw
     case rel=>exact⟨k+1,by omega,by go_num,congrArg (Value.int .i64) (by rw[zGP HF.out];omega),eA⟩
     case measure=>simp[intOf];omega
    ·obtain rfl:t=false:=zQ ht hf;have HF:Hid (¬qF (p.s k)):=hf;clear ht hf;go_wp2;go_roundw
     case rel=>exact⟨k+1,by omega,by go_num,congrArg (Value.int .i64) (by rw[zFu HF.out]),eA⟩
     case measure=>simp[intOf];omega
   ·obtain rfl:k=p.n:=(by omega);go_wp2;go_ret;exact⟨by rw[gA.out];rfl,hb⟩
 ·obtain rfl:t=false:=zQ ht hR;have HR:Hid (¬zv p):=hR;clear ht hR;go_wp2;go_ret;refine⟨?_,cA⟩;have e:zNU p=0:=if_neg HR.out;rw[e];rfl
theorem zBd{P:Program}{k:TypeId}{w w1:World}{M n g o:Nat}{D:DataW Value}{v:Value}(hg:w.grownBy w1 (some M))(hm:w.ownsMap P k zCG M n D)(h:w.cell? ⟨g,o,none⟩=some v):w1.cell? ⟨g,o,none⟩=some v:=by
 refine(hg.cell_far ⟨g,o,none⟩ (zD h) ?_).trans h;intro e;simp only[Option.some.injEq]at e;subst e;obtain⟨es,aA,hb,-⟩:=hm;simp[World.cell?,hb]at h
theorem zBi{w w1 w2:World}{row:Option Nat}(h:w.grownBy w1 row)(k:w1.grownBy w2 row):w.grownBy w2 row:=
 ⟨k.os.trans h.os,k.tape.trans h.tape,k.output.trans h.output,Nat.le_trans h.size k.size,fun i hi aA=>(k.block i (Nat.lt_of_lt_of_le hi h.size) aA).trans (h.block i hi aA)⟩
theorem zFA.side{P:Program}{kt:TypeId}{w w1:World}{M n lo hi:Nat}{D:DataW Value}{v:Value}{W:zH}{vd:Nat->Value}(h:zFA w lo hi v W vd)(hg:w.grownBy w1 (some M))(hm:w.ownsMap P kt zCG M n D)(i:Nat)(hi':i<zq W) :
  ∃g c,v = .slice (some ⟨g,0,none⟩) (zq W) c/\w1.cell? ⟨g,i*5,none⟩=some (.int .i64 (zO W i).zRT)/\w1.cell? ⟨g,i*5+1,none⟩=some (.int .i64 (zO W i).time)/\w1.cell? ⟨g,i*5+2,none⟩=some (.int .i64 (zO W i).rs)/\w1.cell? ⟨g,i*5+3,none⟩=some (.int .i64 (zO W i).rb)/\w1.cell? ⟨g,i*5+4,none⟩=some (vd i):=by
 obtain⟨g,c,e,h0,h1,h2,h3,h4⟩:=h.cells i hi';exact⟨g,c,e,zBd hg hm h0,zBd hg hm h1,zBd hg hm h2,zBd hg hm h3,zBd hg hm h4⟩
theorem zi.side{w w1:World}{M b:Nat}{a0 a1 a2 a3 a4 a5:Value}(h:zi w b a0 a1 a2 a3 a4 a5)(hg:w.grownBy w1 (some M))(aA:b≠M):zi w1 b a0 a1 a2 a3 a4 a5:=by
 obtain⟨h0,h1,h2,h3,h4,h5⟩:=h;have hc:∀{o:Nat} {v:Value},zX w b o v->zX w1 b o v:=fun hc=>⟨(hg.cell_far _ (zD hc.1) (fun e=>aA (Option.some.inj e))).trans hc.1,(hg.frozen_far _ (zD hc.1) (fun e=>aA (Option.some.inj e))).trans hc.2⟩
 exact⟨hc h0,hc h1,hc h2,hc h3,hc h4,hc h5⟩
theorem zMl(v:Value)(s:zm)(w:World):(Instr.field 99 (ye v s) 4).run Tryz.prog w = .ok (.int .i64 s.time) w:=by kernel_rfl
theorem zQX:Go.WideMaps.KeyLaw Tryz.prog 61:=deep_law_laid zPs (m:=5) (by decide) (zPP (by kernel_rfl)) (by kernel_rfl) (by kernel_rfl)
theorem zHT:Tryz.prog.underlying 251=some (.map 61 2):=by kernel_rfl
theorem zPq(w:World):(zeroValue 2).run Tryz.prog w = .ok (.int .i64 0) w:=by kernel_rfl
theorem wrap_small{n:Int}(h0:-9223372036854775808<=n)(h1:n<9223372036854775808):IntKind.i64.wrap n=n:=by
 unfold IntKind.wrap;simp only[IntKind.signed,IntKind.bits,Bool.true_and];split
 ·rename_i hc
  have aA:=of_decide_eq_true hc;omega
 ·rename_i hc
  have aA:=of_decide_eq_false (Bool.eq_false_iff.2 hc);omega
theorem zMo{N n r h:Nat}(hr:r<=n)(hn:n<=200)(hh:h<=9223372036854775807):((N:Int) == IntKind.i64.wrap (IntKind.i64.wrap ((n:Int) - (r:Int)) - (h:Int)))=true↔N+r+h=n:=by
 have e1:IntKind.i64.wrap ((n:Int) - (r:Int))=(n:Int) - (r:Int):=wrap_small (by omega) (by omega);rw[e1];have e2:IntKind.i64.wrap ((n:Int) - (r:Int) - (h:Int))=(n:Int) - (r:Int) - (h:Int):=wrap_small (by omega) (by omega);rw[e2,beq_iff_eq];omega
theorem zFt{w:World}{b n:Nat}{D:DataW Value}{ky v:Value}{kl:Lit}(h:w.ownsMap Tryz.prog 61 zCG b n D)(aA:keyOf Tryz.prog 61 ky=some kl)(cA:D.atKey kl (.held (.int .i64 0)) = .held v):(Instr.lookup 251 (.map (some b)) ky false).run Tryz.prog w = .ok v w:=by
 obtain⟨v',ps,bA,hv⟩:=h.lookup zQq zHT (zPq w) (zBv _) aA;have e1:=zEJ hv;rw[cA]at e1;obtain rfl:=DataW.held.inj e1;exact bA
theorem zIP(v0 v1 v2 v3:Value)(lo hi:Nat)(W:zH)(A:Nat)(w:World)(h:zl w lo hi v0 v1 v2 v3 W)(hs:W.sn<=8)(hp:W.pn<=20)(hA:zBb w lo hi W A)(hD:zCE W)(jD:zCK W)(hR:zv W.zRQ)(hT:zKH W)(mC:∀i,i<zq W->qG W.zRQ (zO W i).rs (zO W i).rb) :
  Calls Tryz.prog 208 #[zz v0 v1 v2 v3 W,zGJ A] w fun e w'=>zG (zFr W) e/\Below w.heap.size w w':=by
 obtain⟨key,hK⟩:=zOS hR mC;have HK:=zB hK;have Hp:=zB h;have HA:=zB hA;have HD:=zB hD;have kE:=zB jD;have HR:=zB hR;have rE:=zB hT;have mE:=zB mC;clear h hA hD jD hR hT mC hK;have ha:=zC w (.cells #[v0,v1,.int .i64 W.time,.int .i64 W.next,v2,v3] 37);have HB:=zB (zi.zRL w v0 v1 (.int .i64 W.time) (.int .i64 W.next) v2 v3 37);have aD:(w.alloc (.cells #[v0,v1,.int .i64 W.time,.int .i64 W.next,v2,v3] 37)).heap.size=w.heap.size+1:=World.size_alloc _ _;have hm:=World.ownsMap_made (w.alloc (.cells #[v0,v1,.int .i64 W.time,.int .i64 W.next,v2,v3] 37)) Tryz.prog 61 zCG;rw[aD]at hm;have HM:=zB hm;have rB:=zB (HB.out.zRJ (zC _ (.map #[] 0)));have cC:=zB (zA ha (zC _ (.map #[] 0)));have aG:=@run_makeMap Tryz.prog;obtain⟨⟨x0,-⟩,⟨x2,-⟩,⟨x4,-⟩,⟨x6,-⟩,⟨x8,-⟩,⟨dF,-⟩⟩:=rB.out;clear hm;go_enter Tryz.func208,Tryz.ntmps208;go_wp2_with fail;go_step3;go_wp2_with fail;go_step3;go_wp2_with fail;clear x0 x2 x4 x6 x8 dF ha HB;have kC:=zB (show((w.alloc (.cells #[v0,v1,.int .i64 W.time,.int .i64 W.next,v2,v3] 37)).alloc (.map #[] 0)).heap.size=w.heap.size+2 by rw[World.size_alloc,aD]);clear aD;generalize (w.alloc (.cells #[v0,v1,.int .i64 W.time,.int .i64 W.next,v2,v3] 37)).alloc (.map #[] 0)=W0 at HM rB cC kC ⊢;refine(zC9 v0 v1 v2 v3 lo hi W W0 (Hp.out.zRJ cC.out) hs hp).mono ?_;rintro e w1 ⟨vm,vd,rfl,hm,nB⟩;have gD:=zB hm;have iD:=zB (rB.out.zRJ nB);have vD:=zB (HM.out.kept (yu nB none) (by simp));have vE:=zA cC.out nB;have hz:w.heap.size+2<=w1.heap.size:=by have h1:=nB.size;have h2:=kC.out;omega
 obtain⟨am,cm,rfl,lF⟩:=id hm.form;have sF:zq W<=28:=by unfold zq;omega
 clear nB hm rB cC HM kC;go_wp2
 go_loopw [6,15] (fun s i wr=>∃k:Nat,k<=zq W/\s = .bool true/\i = .int .i64 k/\wr.ownsMap Tryz.prog 61 zCG (w.heap.size+1) (zn W k).length (zJm key (zn W k).length)/\zFw (zn W k).length key/\w1.grownBy wr (some (w.heap.size+1))/\Below w.heap.size w wr) (fun _ i _=>zq W - (intOf i).toNat)
 case atStart=>exact⟨0,Nat.zero_le _,rfl,rfl,vD.out,fun i hi=>absurd hi (Nat.not_lt_zero _),World.grownBy.refl _ _,vE⟩
 case round=>
  obtain⟨k,hk,rfl,rfl,kA,sA,fB,hb⟩:=hrel;have bA:=zB kA;have iA:=zB sA;have fA:=zB fB;clear kA sA fB;by_cases jB:k<zq W;rotate_left
  ·obtain rfl:k=zq W:=(by omega);obtain⟨⟨m0,a0,c0,rfl,iF,-⟩,⟨m1,a1,c1,rfl,kF,-⟩⟩:=id Hp.out.zRQ;have vC:=HK.out.size iA.out;have tD:=(bA.out.kept (yu ((Below.refl _ _).drew) none) (by simp)).len zHT 3;rw[vC]at tD;have nE:=zB vC;clear vC;have tA:=zHd W.zRQ.s W.zRQ.n;have kB:=HR.out.1;unfold maxLen at m0 m1;have nA:=zB (iD.out.side fA.out (by omega));obtain⟨⟨x0,-⟩,⟨x1,-⟩,⟨x2,-⟩,⟨x3,-⟩,⟨x4,-⟩,⟨x5,-⟩⟩:=nA.out;have bF:=zB (HK.out.dist.1 iA.out);have sE:zNU W.zRQ=(roomN W.zRQ.s W.zRQ.n:Int):=if_pos HR.out;generalize hN:(zn W (zq W)).length=N at *;have HN:=zB hN;clear hN;go_wp2_with fail;go_region_held3 (fun w'=>w'.cell? ⟨w.heap.size,0,none⟩=some (.slice a0 W.zRQ.n c0)/\w'.cell? ⟨w.heap.size,1,none⟩=some (.slice a1 W.zRQ.hn c1)/\(Builtin.len_ #[251] 3 #[.map (some (w.heap.size+1))]).run Tryz.prog w' = .ok (.int .i64 (N:Nat)) w') (go_keep)
    (first
     | (go_at_call 227;refine(zGQ _ _ lo hi W.zRQ _ ((Hp.out.zRJ hb).zRQ.zRJ (Below.refl _ _).drew)).mono ?_;rintro e w5 ⟨rfl,dC⟩;have rA:=zK dC;obtain⟨⟨k0,_⟩,⟨k1,_⟩,_⟩:=nA.out.zRJ rA;have pD:=(bA.out.kept (yu rA none) (by simp)).len zHT 3;rw[nE.out]at pD))
   have dB:=zMo (N:=N) tA kB (by omega:W.zRQ.hn<=9223372036854775807);have iC:=zB dB;have eF:=zA hb rA;clear dB tD pD sE tA kB;go_wp2
   try rw[Exit.noGoto_ret]
   go_ret;refine⟨⟨_,rfl,?_⟩,eF⟩;rw[iC.out];unfold zFr;rw[HN.out];exact⟨fun hx=>⟨bF.out,hx⟩,fun hx=>hx.2⟩
  have oE:(k:Int)<(zq W:Int):=(by omega);obtain⟨g,cg,e,q0,q1,q2,q3,q4⟩:=gD.out.side fA.out vD.out k jB;obtain⟨-,ad,cd,rD,-,-⟩:=id (gD.out.zRX k jB);rw[rD]at q4;cases e;have mA:=zC wr (.cells #[.int .i64 (zO W k).zRT,.int .i64 (zO W k).time,.int .i64 (zO W k).rs,.int .i64 (zO W k).rb,.slice ad (zO W k).dn cd] 224);have HV:=zB (zEV.zRL wr (.int .i64 (zO W k).zRT) (.int .i64 (zO W k).time) (.int .i64 (zO W k).rs) (.int .i64 (zO W k).rb) (.slice ad (zO W k).dn cd) 224);have nA:=zB ((iD.out.side fA.out (by omega)).zRJ mA);have sB:=zA hb mA;have lA:=zB (bA.out.kept (yu mA none) (by simp));have pA:=zB (zBi fA.out (yu mA (some (w.heap.size+1))));have sC:=zB (HA.out.zRJ sB);have jC:=zB (Hp.out.zRJ sB);have dE:=zB (kE.out k jB);have oC:=zB (mE.out k jB);have lC:=zB (rE.out (zO W k).zRT);have eC:=zB (show yD W (zO W k)=zAO (zR W.zRQ (zO W k).rs (zO W k).rb) (zN W (zO W k).zRT).time from rfl);have mB:=zB (show(zn W (k+1)).length=(zn W k).length+(yD W (zO W k)).length from List.length_append);have cF:=zB (fun (j:Nat) (hj:j<(yD W (zO W k)).length)=>zPh W (k:=k) (n:=zq W) jB hj);have eE:=zB (zHc W (zO W k));have lE:=zB (zJd W k);clear rD mA fA bA;generalize zO W k=mk at *;go_wp2_with fail;clear q0 q1 q2 q3 q4;have bB:=zB (show w.heap.size+2<=(wr.alloc (.cells #[.int .i64 mk.zRT,.int .i64 mk.time,.int .i64 mk.rs,.int .i64 mk.rb,.slice ad mk.dn cd] 224)).heap.size from Nat.le_trans hz pA.out.size);generalize wr.alloc (.cells #[.int .i64 mk.zRT,.int .i64 mk.time,.int .i64 mk.rs,.int .i64 mk.rb,.slice ad mk.dn cd] 224)=W2 at HV nA sC jC sB lA pA bB ⊢;generalize wr.heap.size=V at HV ⊢;obtain⟨⟨y0,-⟩,⟨y1,-⟩,⟨y2,-⟩,⟨y3,-⟩,⟨y4,-⟩⟩:=HV.out;obtain⟨⟨x0,-⟩,⟨x1,-⟩,⟨x2,-⟩,⟨x3,-⟩,⟨x4,-⟩,⟨x5,-⟩⟩:=nA.out;have aF:=qP W.zRQ mk.rs mk.rb;have fC:=zB (show qx (zR W.zRQ mk.rs mk.rb).length (zf (zR W.zRQ mk.rs mk.rb)) (zh (zR W.zRQ mk.rs mk.rb))from zBJ HR.out (fun x hx=>(zAX HR.out oC.out hx).1) (zAe HR.out oC.out) (by omega));have gE:=zDc;have pE:=zMl;generalize nD:zN W mk.zRT=S at lC eC ⊢;have jE:=zB nD;clear nD;generalize oD:zR W.zRQ mk.rs mk.rb=tree at fC aF eC ⊢;have iE:=zB oD;clear oD;go_region_held3 (fun w'=>w'.cell? ⟨w.heap.size,0,none⟩=some v0/\w'.cell? ⟨w.heap.size,1,none⟩=some v1/\w'.cell? ⟨w.heap.size,2,none⟩=some (.int .i64 W.time)/\w'.cell? ⟨w.heap.size,3,none⟩=some (.int .i64 W.next)/\w'.cell? ⟨w.heap.size,4,none⟩=some v2/\w'.cell? ⟨w.heap.size,5,none⟩=some v3/\w'.cell? ⟨V,0,none⟩=some (.int .i64 mk.zRT)/\w'.cell? ⟨V,2,none⟩=some (.int .i64 mk.rs)/\w'.cell? ⟨V,3,none⟩=some (.int .i64 mk.rb)) (go_keep)
   (first
    | (go_at_call 226;refine(zBn v0 v1 v2 v3 lo hi W mk.rs mk.rb _ ?_ HR.out oC.out).mono ?_;(exact jC.out.zRJ (Below.refl _ _).drew);rintro e w5 ⟨vt,rfl,vB,dC⟩;rw[iE.out]at vB;obtain⟨oF,mF,rfl,-⟩:=zW vB;have rA:=zK dC;obtain⟨⟨k0,_⟩,⟨k1,_⟩,⟨k2,_⟩,⟨k3,_⟩,⟨k4,_⟩,⟨k5,_⟩⟩:=nA.out.zRJ rA;obtain⟨⟨l0,_⟩,_,⟨l2,_⟩,⟨l3,_⟩,_⟩:=HV.out.zRJ rA)
    | (go_at_call 190;refine(zBg lo hi W A mk.zRT _ (sC.out.zRJ rA) HD.out dE.out hp).mono ?_;rintro e w6 ⟨aa,ca,rfl,fE,bD⟩;rw[jE.out];have tB:=zA rA bD;obtain⟨⟨f0,_⟩,⟨f1,_⟩,⟨f2,_⟩,⟨f3,_⟩,⟨f4,_⟩,⟨f5,_⟩⟩:=nA.out.zRJ tB;obtain⟨⟨g0,_⟩,_,⟨g2,_⟩,⟨g3,_⟩,_⟩:=HV.out.zRJ tB)
    | (go_at_call 151;refine(zA1 _ tree.length 0 _ (zf tree) (zh tree) S.time _ ((vB.zRJ bD).atW (by omega))).mono ?_;rintro e w7 ⟨vy,vz,ly,lz,rfl,hY,-,hy,-,-,sD⟩;rw[(hY.1 ⟨fC.out,lC.out⟩).trans (zFh tree S.time)]at hy;rw[<-eC.out]at hy;obtain⟨ay,cy,rfl,nF⟩:=zW hy;have vA:=zA tB sD;obtain⟨⟨m0,_⟩,⟨m1,_⟩,⟨m2,_⟩,⟨m3,_⟩,⟨m4,_⟩,⟨m5,_⟩⟩:=nA.out.zRJ vA;obtain⟨⟨n0,_⟩,_,⟨n2,_⟩,⟨n3,_⟩,_⟩:=HV.out.zRJ vA))
  have HY:=zB hy;have gA:=zB (lA.out.kept (yu vA none) (by simp));have rC:=zB (zBi pA.out (yu vA (some (w.heap.size+1))));have jF:=zB (nA.out.zRJ vA);have cB:=zA sB vA;have gF:w.heap.size+2<=w7.heap.size:=Nat.le_trans bB.out vA.size;have vF:=eE.out;have pF:=lE.out;clear hy vA sD tB bD rA dC vB fE hY nA HV sC jC lA pA bB fC lC gE pE x0 x1 x2 x3 x4 x5 y0 y1 y2 y3 y4 k0 k1 k2 k3 k4 k5 l0 l2 l3 f0 f1 f2 f3 f4 f5 g0 g2 g3 m0 m1 m2 m3 m4 m5 n0 n2 n3;generalize rF:yD W mk=yl at *;go_wp2_with fail
  go_loopw [6,31] (fun s i wr=>∃j:Nat,j<=yl.length/\s = .bool true/\i = .int .i64 j/\wr.ownsMap Tryz.prog 61 zCG (w.heap.size+1) ((zn W k).length+j) (zJm key ((zn W k).length+j))/\zFw ((zn W k).length+j) key/\w7.grownBy wr (some (w.heap.size+1))/\Below w.heap.size w wr) (fun _ i _=>yl.length - (intOf i).toNat)
  case atStart=>exact⟨0,Nat.zero_le _,rfl,rfl,gA.out,iA.out,World.grownBy.refl _ _,cB⟩
  case round=>
   clear cB;obtain⟨j,hj,rfl,rfl,kA,kD,fB,cB⟩:=hrel;have bA:=zB kA;have pB:=zB kD;have fA:=zB fB;clear kA kD fB;by_cases fD:j<yl.length;rotate_left
   ·obtain rfl:j=yl.length:=(by omega);go_wp2;go_roundw
    case rel=>
     refine⟨k+1,by omega,rfl,by go_num,?_,?_,zBi rC.out fA.out,cB⟩
     ·rw[mB.out];exact bA.out
     ·rw[mB.out];exact pB.out
    case measure=>simp[intOf];omega
   have fF:(j:Int)<(yl.length:Int):=(by omega);obtain⟨-,a7,c7,e7,-,oB⟩:=id (HY.out.atW (by omega));cases e7;obtain⟨b7,o7,rfl,-,-,oB⟩:=oB (by omega);have q0:=zBd fA.out gA.out (oB j fD).1;have q1:=zBd fA.out gA.out (oB j fD).2;clear oB;obtain⟨cD,mD⟩:=cF.out j fD;have eB:keyOf Tryz.prog 61 (.agg #[.int .i64 (zf yl j),.int .i64 (zh yl j)])=some (key ((zn W k).length+j)):=by
    have:=HK.out.at_ _ cD;rw[mD]at this;exact this
   have cE:=zB cD;have dA:=zB eB;clear mD cD eB;have mA:=zC wr (.cells #[.int .i64 (zf yl j),.int .i64 (zh yl j)] 61);have HV:=zB (zc.zRL wr (.int .i64 (zf yl j)) (.int .i64 (zh yl j)) 61);have cA:=zB ((bA.out.kept (yu mA none) (by simp)).kept (yu ((Below.refl _ _).drew) none) (by simp));have gB:=zB (zBi fA.out (yu mA (some (w.heap.size+1))));have aB:=zA cB mA;have jA:=zB (show w.heap.size+1<wr.heap.size by have:=fA.out.size;omega);clear mA fA bA;have tF:(zn W k).length+j<=3000:=(by omega);generalize aE:(zn W k).length+j=p at *;have lD:=zB aE;clear aE;generalize zf yl j=xs at *;generalize zh yl j=xb at *;go_wp2_with fail;clear q0 q1;generalize wr.alloc (.cells #[.int .i64 xs,.int .i64 xb] 61)=W3 at HV cA gB aB ⊢;generalize wr.heap.size=V at HV jA ⊢;by_cases eA:∀i,i<p->key i≠key p
   ·have dD:=zFt cA.out dA.out (HK.out.zRL eA);obtain⟨ev,st,wa,wb,he,pC,lB,aA,gC,oA⟩:=zJa cA.out zQX zHT (by unfold maxLen;omega) zPq dA.out (HK.out.zRL eA) (val:=.int .i64 1);obtain⟨⟨y0,-⟩,⟨y1,-⟩⟩:=HV.out.zRJ ((Below.refl _ _).drew);have z0:=(oA.cell_far _ (zD y0) (fun e=>by have h1:=Option.some.inj e;have h2:=jA.out;simp only at h1;omega)).trans y0;have z1:=(oA.cell_far _ (zD y1) (fun e=>by have h1:=Option.some.inj e;have h2:=jA.out;simp only at h1;omega)).trans y1;have tE:=zFt aA dA.out (HK.out.put p _);have iB:=zB aA;have bE:=zB (zBi (zBi gB.out (yu ((Below.refl _ _).drew) (some (w.heap.size+1)))) oA);have eD:=aB.drew.grown oA (Nat.le_trans aB.size (Nat.le_refl _)) (fun q e=>by cases e;omega);have tC:=zB eA;clear aA gC oA eA aB cB;unfold goInt at he lB;go_region;clear dD pC he lB y0 y1;go_wp2;go_roundw
    case rel=>exact⟨j+1,by omega,rfl,by go_num,by rw[show(zn W k).length+(j+1)=p+1 by have:=lD.out;omega];exact iB.out,by rw[show(zn W k).length+(j+1)=p+1 by have:=lD.out;omega];exact zFQ.2 ⟨pB.out,tC.out⟩,bE.out,eD⟩
    case measure=>simp[intOf];omega
   ·obtain⟨i0,aC,bC⟩:∃i,i<p/\key i=key p:=by
     by_cases hx:∃i,i<p/\key i=key p
     ·exact hx
     ·exact absurd (fun i hi e=>hx ⟨i,hi,e⟩) eA
    have nC:=zB (HK.out.not_nodup aC cE.out bC);have dD:=zFt cA.out dA.out (HK.out.old aC bC pB.out);obtain⟨ev,st,wa,wb,he,pC,lB,aA,gC,oA⟩:=zJa cA.out zQX zHT (by unfold maxLen;omega) zPq dA.out (HK.out.old aC bC pB.out) (val:=.int .i64 2);obtain⟨⟨y0,-⟩,⟨y1,-⟩⟩:=HV.out.zRJ ((Below.refl _ _).drew);have z0:=(oA.cell_far _ (zD y0) (fun e=>by have h1:=Option.some.inj e;have h2:=jA.out;simp only at h1;omega)).trans y0;have z1:=(oA.cell_far _ (zD y1) (fun e=>by have h1:=Option.some.inj e;have h2:=jA.out;simp only at h1;omega)).trans y1;have tE:=zFt aA dA.out (HK.out.put p _);have eD:=aB.drew.grown oA (Nat.le_trans aB.size (Nat.le_refl _)) (fun q e=>by cases e;omega);clear aA gC oA eA aB cB aC bC;unfold goInt at he lB;go_region;clear dD pC he lB y0 y1;go_wp2_with fail;go_region;go_wp2;rw[Exit.noGoto_ret];go_ret;exact⟨zG.no fun hx=>nC.out hx.1,eD.drew⟩
theorem zFN(v0 v1 v2 v3:Value)(lo hi:Nat)(W:zH)(w:World)(h:zl w lo hi v0 v1 v2 v3 W)(vA:zCK W) :
  Calls Tryz.prog 165 #[zz v0 v1 v2 v3 W] w fun e w'=>zG (zAu W) e/\Below w.heap.size w w':=by
 have Hp:=zB h;have cA:=zB vA;clear h vA;have ha:=zC w (.cells #[v0,v1,.int .i64 W.time,.int .i64 W.next,v2,v3] 37);have HB:=zB (zi.zRL w v0 v1 (.int .i64 W.time) (.int .i64 W.next) v2 v3 37);obtain⟨⟨x0,-⟩,⟨x1,-⟩,⟨x2,-⟩,⟨x3,-⟩,⟨x4,-⟩,⟨x5,-⟩⟩:=HB.out;go_enter Tryz.func165,Tryz.ntmps165;go_wp2_with fail;generalize w.alloc (.cells #[v0,v1,.int .i64 W.time,.int .i64 W.next,v2,v3] 37)=W0 at ha HB x0 x1 x2 x3 x4 x5 ⊢;refine(zEI W.time W0).mono ?_;rintro e w1 ⟨⟨t1,rfl,bA⟩,rfl⟩;have aA:=zB bA;clear bA;cases t1
 ·have Hn:=zB (show ¬zAu W from fun hI=>absurd (aA.out.2 hI.zRa.time) (by simp));clear aA;go_wp2;go_ret;exact⟨zG.no Hn.out,ha⟩
 have H1:=zB (aA.out.1 rfl);clear aA;go_wp2_with fail;refine(zEI W.next _).mono ?_;rintro e w1 ⟨⟨t1,rfl,bA⟩,rfl⟩;have aA:=zB bA;clear bA;cases t1
 ·have Hn:=zB (show ¬zAu W from fun hI=>absurd (aA.out.2 hI.zRa.next) (by simp));clear aA;go_wp2;go_ret;exact⟨zG.no Hn.out,ha⟩
 have H2:=zB (aA.out.1 rfl);clear aA;go_wp2_with fail;refine(zIo v2 W.sn lo hi W.zRS _ (Hp.out.zRJ ha).zRS).mono ?_;rintro e w2 ⟨⟨t1,rfl,bA⟩,hc⟩;have aA:=zB bA;have fA:=zA ha hc;have pA:=zB (HB.out.zRJ hc);clear bA hc x0 x1 x2 x3 x4 x5;obtain⟨⟨x0,-⟩,⟨x1,-⟩,⟨x2,-⟩,⟨x3,-⟩,⟨x4,-⟩,⟨x5,-⟩⟩:=pA.out;cases t1
 ·have Hn:=zB (show ¬zAu W from fun hI=>absurd (aA.out.2 hI.zRa.zRS) (by simp));clear aA;go_wp2;go_ret;exact⟨zG.no Hn.out,fA⟩
 have H3:=zB (aA.out.1 rfl);clear aA;have hs:=H3.out.1;go_wp2_with fail;refine(zIe v0 v1 v2 v3 lo hi W _ (Hp.out.zRJ fA) hs).mono ?_;rintro e w3 ⟨⟨t1,rfl,bA⟩,hc⟩;have aA:=zB bA;have gA:=zA fA hc;have nA:=zB (pA.out.zRJ hc);clear bA hc x0 x1 x2 x3 x4 x5;obtain⟨⟨x0,-⟩,⟨x1,-⟩,⟨x2,-⟩,⟨x3,-⟩,⟨x4,-⟩,⟨x5,-⟩⟩:=nA.out;cases t1
 ·have Hn:=zB (show ¬zAu W from fun hI=>absurd (aA.out.2 hI.zRa.zRP) (by simp));clear aA;go_wp2;go_ret;exact⟨zG.no Hn.out,gA⟩
 have H4:=zB (aA.out.1 rfl);clear aA;have hp:=H4.out.1;have HN:=zB (show zCx W from⟨H1.out,H2.out,H3.out,H4.out⟩);go_wp2_with fail;refine(zAC v0 v1 lo hi W.zRQ _ (Hp.out.zRJ gA).zRQ).mono ?_;rintro e w4 ⟨⟨t1,rfl,bA⟩,hc⟩;have aA:=zB bA;have iA:=zA gA hc;have sA:=zB (nA.out.zRJ hc);clear bA hc x0 x1 x2 x3 x4 x5;obtain⟨⟨x0,-⟩,⟨x1,-⟩,⟨x2,-⟩,⟨x3,-⟩,⟨x4,-⟩,⟨x5,-⟩⟩:=sA.out;cases t1
 ·have Hn:=zB (show ¬zAu W from fun hI=>absurd (aA.out.2 hI.right) (by simp));clear aA;go_wp2;go_ret;exact⟨zG.no Hn.out,iA⟩
 have H5:=zB (aA.out.1 rfl);clear aA;go_wp2_with fail;refine(zGx v0 v1 v2 v3 lo hi W _ (Hp.out.zRJ iA) hp HN.out.idsWf).mono ?_;rintro e w5 ⟨A,rfl,hA,hc⟩;have tA:=zB hA;have mA:=zA iA hc;have aB:=zB (sA.out.zRJ hc);clear hA hc x0 x1 x2 x3 x4 x5;obtain⟨⟨x0,-⟩,⟨x1,-⟩,⟨x2,-⟩,⟨x3,-⟩,⟨x4,-⟩,⟨x5,-⟩⟩:=aB.out;go_wp2_with fail;refine(zIV v0 v1 v2 v3 lo hi W A _ (Hp.out.zRJ mA) hs hp tA.out HN.out.dist cA.out).mono ?_;rintro e w6 ⟨⟨t1,rfl,bA⟩,hc⟩;have aA:=zB bA;have dA:=zA mA hc;have lA:=zB (aB.out.zRJ hc);have kA:=zB (tA.out.zRJ hc);clear bA hc x0 x1 x2 x3 x4 x5;obtain⟨⟨x0,-⟩,⟨x1,-⟩,⟨x2,-⟩,⟨x3,-⟩,⟨x4,-⟩,⟨x5,-⟩⟩:=lA.out;cases t1
 ·have Hn:=zB (show ¬zAu W from fun hI=>absurd (aA.out.2 hI.prevs) (by simp));clear aA;go_wp2;go_ret;exact⟨zG.no Hn.out,dA⟩
 have H7:=zB (aA.out.1 rfl);clear aA;go_wp2_with fail;refine(zHV v0 v1 v2 v3 lo hi W A _ (Hp.out.zRJ dA) hp hs kA.out HN.out.dist (HN.out.prevOk H7.out)).mono ?_;rintro e w7 ⟨⟨t1,rfl,bA⟩,hc⟩;have aA:=zB bA;have jA:=zA dA hc;have rA:=zB (lA.out.zRJ hc);have oA:=zB (kA.out.zRJ hc);clear bA hc x0 x1 x2 x3 x4 x5;obtain⟨⟨x0,-⟩,⟨x1,-⟩,⟨x2,-⟩,⟨x3,-⟩,⟨x4,-⟩,⟨x5,-⟩⟩:=rA.out;cases t1
 ·have Hn:=zB (show ¬zAu W from fun hI=>absurd (aA.out.2 hI.lines) (by simp));clear aA;go_wp2;go_ret;exact⟨zG.no Hn.out,jA⟩
 have H8:=zB (aA.out.1 rfl);clear aA;go_wp2_with fail;refine(zIU v0 v1 v2 v3 lo hi W A _ (Hp.out.zRJ jA) hs hp oA.out HN.out.dist cA.out H5.out HN.out.times).mono ?_;rintro e w8 ⟨⟨t1,rfl,bA⟩,hc⟩;have aA:=zB bA;have eA:=zA jA hc;have dB:=zB (rA.out.zRJ hc);have cB:=zB (oA.out.zRJ hc);clear bA hc x0 x1 x2 x3 x4 x5;obtain⟨⟨x0,-⟩,⟨x1,-⟩,⟨x2,-⟩,⟨x3,-⟩,⟨x4,-⟩,⟨x5,-⟩⟩:=dB.out;cases t1
 ·have Hn:=zB (show ¬zAu W from fun hI=>absurd (aA.out.2 hI.trees) (by simp));clear aA;go_wp2;go_ret;exact⟨zG.no Hn.out,eA⟩
 have H9:=zB (aA.out.1 rfl);clear aA;go_wp2_with fail;refine(zIP v0 v1 v2 v3 lo hi W A _ (Hp.out.zRJ eA) hs hp cB.out HN.out.dist cA.out H5.out HN.out.times H9.out.1).mono ?_;rintro e w9 ⟨⟨t1,rfl,bA⟩,hc⟩;have aA:=zB bA;have bB:=zA eA hc;clear bA hc;have Hn:=zB (show t1=true↔zAu W from⟨fun e=>⟨HN.out,H5.out,H7.out,H8.out,H9.out,aA.out.1 e⟩,fun hI=>aA.out.2 hI.homes⟩);clear aA;go_wp2;go_ret;exact⟨⟨t1,rfl,Hn.out⟩,bB⟩
def zMM(w:World)(b:Nat)(v0 v1 v2 v3:Value):Prop:=zX w b 0 v0/\zX w b 1 v1/\zX w b 2 v2/\zX w b 3 v3
theorem zMM.zRJ{w w':World}{b:Nat}{v0 v1 v2 v3:Value}(h:zMM w b v0 v1 v2 v3)(t:Below w.heap.size w w'):zMM w' b v0 v1 v2 v3:=⟨h.1.zRJ t,h.2.1.zRJ t,h.2.2.1.zRJ t,h.2.2.2.zRJ t⟩
theorem zMM.zRL(w:World)(v0 v1 v2 v3:Value)(t:TypeId):zMM (w.alloc (.cells #[v0,v1,v2,v3] t)) w.heap.size v0 v1 v2 v3:=by
 have hb:(w.alloc (.cells #[v0,v1,v2,v3] t)).heap[w.heap.size]?=some (.cells #[v0,v1,v2,v3] t):=heap_alloc_new _ _;exact⟨zI hb rfl,zI hb rfl,zI hb rfl,zI hb rfl⟩
abbrev put4(w:World)(b:Nat)(u0 u1 u2 u3:Value):World:=(((w.setCell ⟨b,0,none⟩ u0).setCell ⟨b,1,none⟩ u1).setCell ⟨b,2,none⟩ u2).setCell ⟨b,3,none⟩ u3
def zC1(w:World)(p:Nat->Addr)(v:Value)(m:Nat)(g:Nat->Nat)(lb:Nat->Array Value)(ei:Nat->Nat):Prop:=
 m<=1000/\∃a c,v = .slice a m c/\(0<m->∃b off,a=some ⟨b,off,none⟩/\∀i,i<m->w.cell? ⟨b,off+i*2,none⟩=some (.func (.func (g i)) #[] (lb i))/\w.cell? ⟨b,off+i*2+1,none⟩=some (qO (p (ei i))))
theorem zC1.zRJ{w w':World}{p:Nat->Addr}{v:Value}{m:Nat}{g:Nat->Nat}{lb:Nat->Array Value}{ei:Nat->Nat}(h:zC1 w p v m g lb ei)(t:Below w.heap.size w w'):zC1 w' p v m g lb ei:=by
 obtain⟨m1,a,c,hv,hx⟩:=h;refine⟨m1,a,c,hv,fun h0=>?_⟩;obtain⟨b,off,ha,hc⟩:=hx h0;exact⟨b,off,ha,fun i hi=>⟨(t.cell (zD (hc i hi).1)).trans (hc i hi).1,(t.cell (zD (hc i hi).2)).trans (hc i hi).2⟩⟩
theorem zC1.cells{w:World}{p:Nat->Addr}{a:Option Addr}{c m:Nat}{g:Nat->Nat}{lb:Nat->Array Value}{ei:Nat->Nat}(h:zC1 w p (.slice a m c) m g lb ei){i:Nat}(hi:i<m):∃b off,a=some ⟨b,off,none⟩/\w.cell? ⟨b,off+i*2,none⟩=some (.func (.func (g i)) #[] (lb i))/\w.cell? ⟨b,off+i*2+1,none⟩=some (qO (p (ei i))):=by
 obtain⟨m1,a0,c0,hv,hx⟩:=h;simp only[Value.slice.injEq,true_and]at hv;obtain⟨rfl,rfl⟩:=hv;obtain⟨b,off,ha,hc⟩:=hx (by omega);exact⟨b,off,ha,hc i hi⟩
def zHX(W:zH)(long bad:Prop)(m:Nat)(Q:Nat->Prop)(ei:Nat->Nat)(r:Option Nat):Prop:=
 (long/\r=some 1)\/(¬long/\(¬zAu W\/bad)/\r=some 0)\/(¬long/\zAu W/\¬bad/\∃i,i<m/\¬Q i/\(∀j,j<i->Q j)/\r=some (ei i))\/(¬long/\zAu W/\¬bad/\(∀j,j<m->Q j)/\r=none)
def zQv(p:Nat->Addr):Option Nat->Value
 | none=>.nilIface
 | some i=>qO (p i)
theorem zMD(p:Nat->Addr)(tv nv qv dv:Value)(nt nn m:Nat)(tx nx:Nat->ByteArray)(g:Nat->Nat)(lb:Nat->Array Value)(ei:Nat->Nat)(Q:Nat->Prop)(v0 v1 v2 v3:Value)(lo hi:Nat)(W:zH)(w:World)(hE:zEr w p)(h:zl w lo hi v0 v1 v2 v3 W)(mB:zCK W)
  (ht:zAH w tv nt tx) (hn:zAH w nv nn nx) (hq:zC1 w p qv m g lb ei) (eg:∀i,i<m->Enters Tryz.prog (g i))
  (hQ:∀i,i<m->∀w',Below w.heap.size w w'->zAu W->(∀j,j<i->Q j)->Calls Tryz.prog (g i) (#[zz v0 v1 v2 v3 W] ++ lb i) w' fun e fB=>zG (Q i) e/\Below w'.heap.size w' fB) :
  Calls Tryz.prog 105 #[.agg #[tv,nv,qv,dv],zz v0 v1 v2 v3 W] w fun e w'=>∃r,e = .returned (zQv p r)/\zHX W (∃i,i<nt/\8000<(tx i).size) (∃i,i<nn/\¬yM (nx i)) m Q ei r/\Below w.heap.size w w':=by
 have Hp:=zd h;have HE:=zd hE;have Ht:=zd ht;have Hn:=zd hn;have Hq:=zd hq;have HQ:=zd hQ;have Hg:=zd eg;obtain⟨t1,ta,tc,rfl,-⟩:=ht;obtain⟨n1,na,nc,rfl,-⟩:=hn;obtain⟨m1,qa,qc,rfl,-⟩:=hq;clear h hE hQ eg;have bB:=zC w (.cells #[.slice ta nt tc,.slice na nn nc,.slice qa m qc,dv] 86);have pA:=zC (w.alloc (.cells #[.slice ta nt tc,.slice na nn nc,.slice qa m qc,dv] 86)) (.cells #[v0,v1,.int .i64 W.time,.int .i64 W.next,v2,v3] 37);have hb:=zA bB pA;have hd:=(zMM.zRL w (.slice ta nt tc) (.slice na nn nc) (.slice qa m qc) (dv) 86).zRJ pA;have hx:=zi.zRL (w.alloc (.cells #[.slice ta nt tc,.slice na nn nc,.slice qa m qc,dv] 86)) (v0) (v1) (.int .i64 W.time) (.int .i64 W.next) (v2) (v3) 37;rw[World.size_alloc]at hx;have HD:=zd hd;have HX:=zd hx;clear hd hx;obtain⟨⟨d0,-⟩,⟨d1,-⟩,⟨d2,-⟩,⟨d3,-⟩⟩:=HD.out;go_enter Tryz.func105,Tryz.ntmps105;go_wp2_with fail;clear d0 d1 d2 d3;generalize ((w.alloc (.cells #[.slice ta nt tc,.slice na nn nc,.slice qa m qc,dv] 86)).alloc (.cells #[v0,v1,.int .i64 W.time,.int .i64 W.next,v2,v3] 37))=W1 at hb HD HX ⊢;clear bB pA;refine(zOY _ nt tx W1 (Ht.out.zRJ hb)).mono ?_;rintro e w2 ⟨⟨t,rfl,aA⟩,gA⟩;have cA:=zA hb gA;have tA:=zd (HD.out.zRJ gA);have rA:=zd (HX.out.zRJ gA);clear gA hb HD HX;by_cases hl:∃i,i<nt/\8000<(tx i).size
 ·obtain rfl:t=true:=aA.2 hl;have HL:=zd hl;have vA:w2.cell? ⟨3,0,none⟩=some (qO (p 1)):=(HE.out.zRJ cA).cell 1 (by omega);clear aA hl;go_wp2;go_ret;exact⟨some 1,rfl,Or.inl ⟨HL.out,rfl⟩,cA⟩
 obtain rfl:t=false:=zQ aA hl;have HL:=zd hl;clear aA hl;obtain⟨⟨x0,-⟩,⟨x1,-⟩,⟨x2,-⟩,⟨x3,-⟩,⟨x4,-⟩,⟨x5,-⟩⟩:=rA.out;go_wp2_with fail;clear x0 x1 x2 x3 x4 x5;refine(zFN _ _ _ _ lo hi W w2 (Hp.out.zRJ cA) mB).mono ?_;rintro e w3 ⟨⟨t,rfl,aA⟩,kA⟩;have dA:=zA cA kA;have nA:=zd (tA.out.zRJ kA);have aB:=zd (rA.out.zRJ kA);clear kA cA tA rA;by_cases hw:zAu W;rotate_left
 ·obtain rfl:t=false:=zQ aA hw;have HW:=zd hw;have vA:w3.cell? ⟨4,0,none⟩=some (qO (p 0)):=(HE.out.zRJ dA).cell 0 (by omega);clear aA hw;go_wp2;go_ret;exact⟨some 0,rfl,Or.inr (Or.inl ⟨HL.out,Or.inl HW.out,rfl⟩),dA⟩
 obtain rfl:t=true:=aA.2 hw;have HW:=zd hw;clear aA hw;obtain⟨⟨d0,-⟩,⟨d1,-⟩,⟨d2,-⟩,⟨d3,-⟩⟩:=nA.out;go_wp2_with fail;clear d0 d1 d2 d3;refine(zNo _ nn nx w3 (Hn.out.zRJ dA)).mono ?_;rintro e w4 ⟨⟨t,rfl,aA⟩,lA⟩;have oA:=zA dA lA;have gB:=zd (nA.out.zRJ lA);have eB:=zd (aB.out.zRJ lA);clear lA dA nA aB;by_cases hl:∃i,i<nn/\¬yM (nx i)
 ·obtain rfl:t=true:=aA.2 hl;have HN:=zd hl;have vA:w4.cell? ⟨4,0,none⟩=some (qO (p 0)):=(HE.out.zRJ oA).cell 0 (by omega);clear aA hl;go_wp2;go_ret;exact⟨some 0,rfl,Or.inr (Or.inl ⟨HL.out,Or.inr HN.out,rfl⟩),oA⟩
 obtain rfl:t=false:=zQ aA hl;have HN:=zd hl;clear aA hl;obtain⟨⟨d0,-⟩,⟨d1,-⟩,⟨d2,-⟩,⟨d3,-⟩⟩:=gB.out;go_wp2;clear d0 d1 d2 d3
 go_loopw [23] (fun i wr=>∃k:Nat,k<=m/\i = .int .i64 k/\(∀j,j<k->Q j)/\zi wr (w.heap.size+1) (v0) (v1) (.int .i64 W.time) (.int .i64 W.next) (v2) (v3)/\Below w.heap.size w wr) (fun i _=>m - (intOf i).toNat)
 case atStart=>exact⟨0,Nat.zero_le _,rfl,fun j hj=>absurd hj (Nat.not_lt_zero _),eB.out,oA⟩
 case round=>
  obtain⟨k,hk,rfl,eA,hX,hb⟩:=hrel;have bA:=zd eA;have kB:=zd hX;clear eA hX;by_cases iA:k<m
  ·have iB:(k:Int)<(m:Int):=(by omega);obtain⟨b,off,rfl,q0,q1⟩:=(Hq.out.zRJ hb).cells iA;have sA:=zC wr (.cells #[.func (.func (g k)) #[] (lb k),qO (p (ei k))] 75);have HV:=zd (zc.zRL wr (.func (.func (g k)) #[] (lb k)) (qO (p (ei k))) 75);have mA:=zd (kB.out.zRJ sA);have jA:=zA hb sA;have e0:∀(args:Array Value) (w:World),(callFunc (g k) args).run Tryz.prog w = .ok (.enter (g k) args) w:=Hg.out k iA;have dB:=fun (w:World) (a:Addr)=>run_store Tryz.prog w a (.func (.func (g k)) #[] (lb k)) .plain rfl
   obtain⟨⟨z0,-⟩,⟨z1,-⟩⟩:=HV.out;obtain⟨⟨x0,-⟩,⟨x1,-⟩,⟨x2,-⟩,⟨x3,-⟩,⟨x4,-⟩,⟨x5,-⟩⟩:=mA.out;go_wp2_with fail;clear x0 x1 x2 x3 x4 x5 z0 z1 q0 q1 dB;generalize wr.alloc (.cells #[.func (.func (g k)) #[] (lb k),qO (p (ei k))] 75)=W5 at HV mA jA ⊢;generalize wr.heap.size=V at HV ⊢;refine(HQ.out k iA W5 jA HW.out bA.out).mono ?_;rintro e w6 ⟨⟨t,rfl,aA⟩,fA⟩;have cB:=zA jA fA;have jB:=zd (HV.out.zRJ fA);have lB:=zd (mA.out.zRJ fA);clear fA jA sA e0;by_cases hf:Q k
   ·obtain rfl:t=true:=aA.2 hf;have HF:=zd hf;clear aA hf;go_wp2;go_roundw
    case rel=>
     refine⟨k+1,by omega,by go_num,fun j hj=>?_,lB.out,cB⟩;by_cases e:j=k
     ·subst e;exact HF.out
     ·exact bA.out j (by omega)
    case measure=>simp[intOf];omega
   ·obtain rfl:t=false:=zQ aA hf;have HF:=zd hf;clear aA hf;obtain⟨⟨z0,-⟩,⟨z1,-⟩⟩:=jB.out;go_wp2;go_ret;exact⟨some (ei k),rfl,Or.inr (Or.inr (Or.inl ⟨HL.out,HW.out,HN.out,k,iA,HF.out,bA.out,rfl⟩)),cB⟩
  ·obtain rfl:k=m:=(by omega);go_wp2;go_ret;exact⟨none,rfl,Or.inr (Or.inr (Or.inr ⟨HL.out,HW.out,HN.out,bA.out,rfl⟩)),hb⟩
def zJu:qC:={name:=⟨#[]⟩,origin:=0,zRT:=0,rs:=0,rb:=0,dn:=0,ds:=fun _=>0,db:=fun _=>0}
structure zAE (w:World) (bs o kb:Nat) (kv:Value) (s:qC):Prop where
 c0:zX w bs o (.string s.name)
 c1:zX w bs (o+1) (.int .i64 s.origin)
 c2:zX w bs (o+2) (.int .i64 s.zRT)
 c3:zX w bs (o+3) (.int .i64 s.rs)
 c4:zX w bs (o+4) (.int .i64 s.rb)
 c5:zX w bs (o+5) kv
 zRX:zj w kb kv s.dn s.ds s.db
 zRZ:s.name.size<=maxLen
 zRW:0<s.dn->kb≠bs
theorem zAE.zRR{S:Nat->Prop}{w w':World}{bs o kb:Nat}{kv:Value}{s:qC}(h:zAE w bs o kb kv s)(t:zF S w w')(h1:¬S bs)(h2:0<s.dn->¬S kb):zAE w' bs o kb kv s:=
 ⟨h.c0.zRR t h1,h.c1.zRR t h1,h.c2.zRR t h1,h.c3.zRR t h1,h.c4.zRR t h1,h.c5.zRR t h1,h.zRX.zRR t h2,h.zRZ,h.zRW⟩
theorem zAE.zRJ{w w':World}{bs o kb:Nat}{kv:Value}{s:qC}(h:zAE w bs o kb kv s)(t:Below w.heap.size w w'):zAE w' bs o kb kv s:=
 h.zRR (zF.zRM (S:=fun _=>False) t) (fun h=>h) (fun _ h=>h)
theorem zAE.cells{w:World}{bs o kb:Nat}{kv:Value}{s:qC}(h:zAE w bs o kb kv s){lo hi:Nat}(hb:0<s.dn->lo<=kb/\kb<hi):zBO w bs o lo hi kv s:=
 ⟨h.c0.1,h.c1.1,h.c2.1,h.c3.1,h.c4.1,h.c5.1,h.zRX.at hb,h.zRZ⟩
theorem zAE.deadLt{w:World}{bs o kb:Nat}{kv:Value}{s:qC}(h:zAE w bs o kb kv s)(h0:0<s.dn):kb<w.heap.size:=by
 obtain⟨_,_,_,_,_,h4⟩:=h.zRX;obtain⟨o,_,h5⟩:=h4 h0;exact(h5 0 h0).1.lt
def yN(w:World)(bs:Nat)(kb:Nat->Nat)(kv:Nat->Value)(v:Value)(n:Nat)(f:Nat->qC):Prop:=
 n<=maxLen/\∃a cap,v = .slice a n cap/\n<=cap/\(0<n->∃off,a=some ⟨bs,off,none⟩/\∀i,i<n->zAE w bs (off+i*6) (kb i) (kv i) (f i))
def zCB(bs:Nat)(kb:Nat->Nat)(n:Nat)(f:Nat->qC)(k:Nat):Prop:=(0<n/\k=bs)\/∃i,i<n/\0<(f i).dn/\k=kb i
def zBL(kb:Nat->Nat)(n:Nat)(f:Nat->qC):Prop:=∀i j,i<n->j<n->i≠j->0<(f i).dn->0<(f j).dn->kb i≠kb j
theorem yN.lt{w:World}{bs:Nat}{kb:Nat->Nat}{kv:Nat->Value}{v:Value}{n:Nat}{f:Nat->qC}(h:yN w bs kb kv v n f){k:Nat}(hk:zCB bs kb n f k):k<w.heap.size:=by
 obtain⟨_,a,aA,_,_,hc⟩:=h;rcases hk with⟨h0,rfl⟩ | ⟨i,hi,h0,rfl⟩
 ·obtain⟨off,_,h3⟩:=hc h0;exact(h3 0 h0).c0.lt
 ·obtain⟨off,_,h3⟩:=hc (by omega);exact(h3 i hi).deadLt h0
theorem yN.zRR{S:Nat->Prop}{w w':World}{bs:Nat}{kb:Nat->Nat}{kv:Nat->Value}{v:Value}{n:Nat}{f:Nat->qC}(h:yN w bs kb kv v n f)(t:zF S w w')(hs:∀k,zCB bs kb n f k->¬S k):yN w' bs kb kv v n f:=by
 obtain⟨h0,a,aA,hv,bA,hc⟩:=h;refine⟨h0,a,aA,hv,bA,fun hn=>?_⟩;obtain⟨off,ha,h3⟩:=hc hn;exact⟨off,ha,fun i hi=>(h3 i hi).zRR t (hs _ (Or.inl ⟨hn,rfl⟩)) (fun h=>hs _ (Or.inr ⟨i,hi,h,rfl⟩))⟩
theorem yN.zRJ{w w':World}{bs:Nat}{kb:Nat->Nat}{kv:Nat->Value}{v:Value}{n:Nat}{f:Nat->qC}(h:yN w bs kb kv v n f)(t:Below w.heap.size w w'):yN w' bs kb kv v n f:=
 h.zRR (zF.zRM (S:=fun _=>False) t) (fun _ _ h=>h)
theorem yN.at{w:World}{bs:Nat}{kb:Nat->Nat}{kv:Nat->Value}{v:Value}{n:Nat}{f:Nat->qC}(h:yN w bs kb kv v n f){lo hi:Nat}(hb:∀k,zCB bs kb n f k->lo<=k/\k<hi):yY w lo hi v n f:=by
 obtain⟨h0,a,aA,hv,bA,hc⟩:=h;refine⟨h0,a,aA,hv,bA,fun hn=>?_⟩;obtain⟨off,ha,h3⟩:=hc hn;have hx:=hb _ (Or.inl ⟨hn,rfl⟩);exact⟨bs,off,ha,hx.1,hx.2,fun i hi=>⟨_,(h3 i hi).cells (fun h=>hb _ (Or.inr ⟨i,hi,h,rfl⟩))⟩⟩
structure zDX (wr:World) (bs n k:Nat) (f:Nat->qC) (kb:Nat->Nat) (kv:Nat->Value):Prop where
 rows:∀j,j<n->zAE wr bs (0+j*6) (kb j) (kv j) (if j<k then f j else zJu)
 zRW:zBL kb k f
 zRY:∀j,j<k->0<(f j).dn->bs<kb j/\kb j<wr.heap.size
theorem zDX.zRJ{wr w':World}{bs n k:Nat}{f:Nat->qC}{kb:Nat->Nat}{kv:Nat->Value}(h:zDX wr bs n k f kb kv)(t:Below wr.heap.size wr w'):zDX w' bs n k f kb kv:=
 ⟨fun j hj=>(h.rows j hj).zRJ t,h.zRW,fun j hj h0=>by have:=h.zRY j hj h0;have:=t.size;omega⟩
theorem zDX.next{wr w1:World}{bs n k b:Nat}{f:Nat->qC}{kb:Nat->Nat}{kv:Nat->Value}{v:Value}(h:zDX wr bs n k f kb kv)(hk:k<n)(cA:bs<wr.heap.size)(t:Below wr.heap.size wr w1)
  (hp:zj w1 b v (f k).dn (f k).ds (f k).db) (hb:wr.heap.size<=b) (dA:b<w1.heap.size) (hs:(f k).name.size<=maxLen) :
  zDX ((((((w1.setCell ⟨bs,0+k*6,none⟩ (.string (f k).name)).setCell ⟨bs,0+k*6+1,none⟩ (.int .i64 (f k).origin)).setCell ⟨bs,0+k*6+2,none⟩ (.int .i64 (f k).zRT)).setCell ⟨bs,0+k*6+3,none⟩ (.int .i64 (f k).rs)).setCell ⟨bs,0+k*6+4,none⟩ (.int .i64 (f k).rb)).setCell ⟨bs,0+k*6+5,none⟩ v) bs n (k+1) f (fun j=>if j=k then b else kb j) (fun j=>if j=k then v else kv j):=by
 have h':=h.zRJ t;refine⟨fun j hj=>?_,fun i j hi hj bA h1 h2=>?_,fun j hj h0=>?_⟩
 ·have aA:=h'.rows j hj;by_cases e:j=k
  ·subst e;simp only[if_true];rw[if_pos (by omega)];refine⟨?_,?_,?_,?_,?_,?_,?_,hs,fun _=>by omega⟩
   ·exact(((((aA.c0.set _).zRK _ (Or.inr (by omega))).zRK _ (Or.inr (by omega))).zRK _ (Or.inr (by omega))).zRK _ (Or.inr (by omega))).zRK _ (Or.inr (by omega))
   ·exact(((((aA.c1.zRK _ (Or.inr (by omega))).set _).zRK _ (Or.inr (by omega))).zRK _ (Or.inr (by omega))).zRK _ (Or.inr (by omega))).zRK _ (Or.inr (by omega))
   ·exact(((((aA.c2.zRK _ (Or.inr (by omega))).zRK _ (Or.inr (by omega))).set _).zRK _ (Or.inr (by omega))).zRK _ (Or.inr (by omega))).zRK _ (Or.inr (by omega))
   ·exact(((((aA.c3.zRK _ (Or.inr (by omega))).zRK _ (Or.inr (by omega))).zRK _ (Or.inr (by omega))).set _).zRK _ (Or.inr (by omega))).zRK _ (Or.inr (by omega))
   ·exact(((((aA.c4.zRK _ (Or.inr (by omega))).zRK _ (Or.inr (by omega))).zRK _ (Or.inr (by omega))).zRK _ (Or.inr (by omega))).set _).zRK _ (Or.inr (by omega))
   ·exact(((((aA.c5.zRK _ (Or.inr (by omega))).zRK _ (Or.inr (by omega))).zRK _ (Or.inr (by omega))).zRK _ (Or.inr (by omega))).zRK _ (Or.inr (by omega))).set _
   ·exact(((((hp.put _ (by omega)).put _ (by omega)).put _ (by omega)).put _ (by omega)).put _ (by omega)).put _ (by omega)
  ·simp only[if_neg e];have es:(if j<k+1 then f j else zJu)=if j<k then f j else zJu:=by
    by_cases e2:j<k
    ·rw[if_pos e2,if_pos (by omega)]
    ·rw[if_neg e2,if_neg (by omega)]
   rw[es];refine⟨?_,?_,?_,?_,?_,?_,?_,aA.zRZ,aA.zRW⟩
   ·exact(((((aA.c0.zRK _ (Or.inr (by omega))).zRK _ (Or.inr (by omega))).zRK _ (Or.inr (by omega))).zRK _ (Or.inr (by omega))).zRK _ (Or.inr (by omega))).zRK _ (Or.inr (by omega))
   ·exact(((((aA.c1.zRK _ (Or.inr (by omega))).zRK _ (Or.inr (by omega))).zRK _ (Or.inr (by omega))).zRK _ (Or.inr (by omega))).zRK _ (Or.inr (by omega))).zRK _ (Or.inr (by omega))
   ·exact(((((aA.c2.zRK _ (Or.inr (by omega))).zRK _ (Or.inr (by omega))).zRK _ (Or.inr (by omega))).zRK _ (Or.inr (by omega))).zRK _ (Or.inr (by omega))).zRK _ (Or.inr (by omega))
   ·exact(((((aA.c3.zRK _ (Or.inr (by omega))).zRK _ (Or.inr (by omega))).zRK _ (Or.inr (by omega))).zRK _ (Or.inr (by omega))).zRK _ (Or.inr (by omega))).zRK _ (Or.inr (by omega))
   ·exact(((((aA.c4.zRK _ (Or.inr (by omega))).zRK _ (Or.inr (by omega))).zRK _ (Or.inr (by omega))).zRK _ (Or.inr (by omega))).zRK _ (Or.inr (by omega))).zRK _ (Or.inr (by omega))
   ·exact(((((aA.c5.zRK _ (Or.inr (by omega))).zRK _ (Or.inr (by omega))).zRK _ (Or.inr (by omega))).zRK _ (Or.inr (by omega))).zRK _ (Or.inr (by omega))).zRK _ (Or.inr (by omega))
   ·refine(((((aA.zRX.zRR (zF.put _ _ _ _) ?_).zRR (zF.put _ _ _ _) ?_).zRR (zF.put _ _ _ _) ?_).zRR (zF.put _ _ _ _) ?_).zRR (zF.put _ _ _ _) ?_).zRR (zF.put _ _ _ _) ?_
    all_goals exact fun h0 hx=>aA.zRW h0 hx
 ·show(if i=k then b else kb i)≠(if j=k then b else kb j);by_cases e1:i=k
  ·by_cases e2:j=k
   ·omega
   ·rw[if_pos e1,if_neg e2];have:=h.zRY j (by omega) h2;omega
  ·by_cases e2:j=k
   ·rw[if_neg e1,if_pos e2];have:=h.zRY i (by omega) h1;omega
   ·rw[if_neg e1,if_neg e2];exact h.zRW i j (by omega) (by omega) bA h1 h2
 ·simp only[World.size_setCell];by_cases e:j=k
  ·rw[if_pos e];omega
  ·rw[if_neg e];have:=h'.zRY j (by omega) h0;omega
theorem zIK:(Tryz.prog.info? 67).map (fun i=>(i.zero,i.size,i.bytes))=some (some (.agg #[.string ⟨#[]⟩,.int .i64 0,.int .i64 0,.int .i64 0,.int .i64 0,.slice none 0 0]),6,72):=by kernel_rfl
theorem zMe{w:World}{bs n j:Nat}(hj:j<n)(aA:bs=w.heap.size):zAE (w.alloc (.cells (zA2 #[.string ⟨#[]⟩,.int .i64 0,.int .i64 0,.int .i64 0,.int .i64 0,.slice none 0 0] n) 67)) bs (0+j*6) 0 (.slice none 0 0) zJu:=by
 subst aA;have c0:=qu w #[.string ⟨#[]⟩,.int .i64 0,.int .i64 0,.int .i64 0,.int .i64 0,.slice none 0 0] n j 0 67 hj (by simp);have c1:=qu w #[.string ⟨#[]⟩,.int .i64 0,.int .i64 0,.int .i64 0,.int .i64 0,.slice none 0 0] n j 1 67 hj (by simp);have c2:=qu w #[.string ⟨#[]⟩,.int .i64 0,.int .i64 0,.int .i64 0,.int .i64 0,.slice none 0 0] n j 2 67 hj (by simp);have c3:=qu w #[.string ⟨#[]⟩,.int .i64 0,.int .i64 0,.int .i64 0,.int .i64 0,.slice none 0 0] n j 3 67 hj (by simp);have c4:=qu w #[.string ⟨#[]⟩,.int .i64 0,.int .i64 0,.int .i64 0,.int .i64 0,.slice none 0 0] n j 4 67 hj (by simp);have c5:=qu w #[.string ⟨#[]⟩,.int .i64 0,.int .i64 0,.int .i64 0,.int .i64 0,.slice none 0 0] n j 5 67 hj (by simp);refine⟨?_,?_,?_,?_,?_,?_,⟨Nat.zero_le _,none,0,rfl,Nat.le_refl _,fun h=>absurd h (Nat.lt_irrefl _)⟩,Nat.zero_le _,fun h=>absurd h (Nat.lt_irrefl _)⟩
 ·show zX _ _ _ (.string ⟨#[]⟩);simpa using c0
 ·show zX _ _ _ (.int .i64 0);simpa using c1
 ·show zX _ _ _ (.int .i64 0);simpa using c2
 ·show zX _ _ _ (.int .i64 0);simpa using c3
 ·show zX _ _ _ (.int .i64 0);simpa using c4
 ·show zX _ _ _ (.slice none 0 0);simpa using c5
def zHI:zm:={id:=0,name:=⟨#[]⟩,set:=⟨#[]⟩,zRT:=0,time:=0,rs:=0,rb:=0,dn:=0,ds:=fun _=>0,db:=fun _=>0}
structure zAG (w:World) (bs o kb:Nat) (kv:Value) (s:zm):Prop where
 c0:zX w bs o (.int .i64 s.id)
 c1:zX w bs (o+1) (.string s.name)
 c2:zX w bs (o+2) (.string s.set)
 c3:zX w bs (o+3) (.int .i64 s.zRT)
 c4:zX w bs (o+4) (.int .i64 s.time)
 c5:zX w bs (o+5) (.int .i64 s.rs)
 c6:zX w bs (o+6) (.int .i64 s.rb)
 c7:zX w bs (o+7) kv
 zRX:zj w kb kv s.dn s.ds s.db
 zRZ:s.name.size<=maxLen/\s.set.size<=maxLen
 zRW:0<s.dn->kb≠bs
theorem zAG.zRR{S:Nat->Prop}{w w':World}{bs o kb:Nat}{kv:Value}{s:zm}(h:zAG w bs o kb kv s)(t:zF S w w')(h1:¬S bs)(h2:0<s.dn->¬S kb):zAG w' bs o kb kv s:=
 ⟨h.c0.zRR t h1,h.c1.zRR t h1,h.c2.zRR t h1,h.c3.zRR t h1,h.c4.zRR t h1,h.c5.zRR t h1,h.c6.zRR t h1,h.c7.zRR t h1,h.zRX.zRR t h2,h.zRZ,h.zRW⟩
theorem zAG.zRJ{w w':World}{bs o kb:Nat}{kv:Value}{s:zm}(h:zAG w bs o kb kv s)(t:Below w.heap.size w w'):zAG w' bs o kb kv s:=
 h.zRR (zF.zRM (S:=fun _=>False) t) (fun h=>h) (fun _ h=>h)
theorem zAG.cells{w:World}{bs o kb:Nat}{kv:Value}{s:zm}(h:zAG w bs o kb kv s){lo hi:Nat}(hb:0<s.dn->lo<=kb/\kb<hi):zAl w bs o lo hi kv s:=
 ⟨h.c0.1,h.c1.1,h.c2.1,h.c3.1,h.c4.1,h.c5.1,h.c6.1,h.c7.1,h.zRX.at hb,h.zRZ⟩
theorem zAG.deadLt{w:World}{bs o kb:Nat}{kv:Value}{s:zm}(h:zAG w bs o kb kv s)(h0:0<s.dn):kb<w.heap.size:=by
 obtain⟨_,_,_,_,_,h4⟩:=h.zRX;obtain⟨o,_,h5⟩:=h4 h0;exact(h5 0 h0).1.lt
def yV(w:World)(bs:Nat)(kb:Nat->Nat)(kv:Nat->Value)(v:Value)(n:Nat)(f:Nat->zm):Prop:=
 n<=maxLen/\∃a cap,v = .slice a n cap/\n<=cap/\(0<n->∃off,a=some ⟨bs,off,none⟩/\∀i,i<n->zAG w bs (off+i*8) (kb i) (kv i) (f i))
def zB6(bs:Nat)(kb:Nat->Nat)(n:Nat)(f:Nat->zm)(k:Nat):Prop:=(0<n/\k=bs)\/∃i,i<n/\0<(f i).dn/\k=kb i
def zBD(kb:Nat->Nat)(n:Nat)(f:Nat->zm):Prop:=∀i j,i<n->j<n->i≠j->0<(f i).dn->0<(f j).dn->kb i≠kb j
theorem yV.lt{w:World}{bs:Nat}{kb:Nat->Nat}{kv:Nat->Value}{v:Value}{n:Nat}{f:Nat->zm}(h:yV w bs kb kv v n f){k:Nat}(hk:zB6 bs kb n f k):k<w.heap.size:=by
 obtain⟨_,a,aA,_,_,hc⟩:=h;rcases hk with⟨h0,rfl⟩ | ⟨i,hi,h0,rfl⟩
 ·obtain⟨off,_,h3⟩:=hc h0;exact(h3 0 h0).c0.lt
 ·obtain⟨off,_,h3⟩:=hc (by omega);exact(h3 i hi).deadLt h0
theorem yV.zRR{S:Nat->Prop}{w w':World}{bs:Nat}{kb:Nat->Nat}{kv:Nat->Value}{v:Value}{n:Nat}{f:Nat->zm}(h:yV w bs kb kv v n f)(t:zF S w w')(hs:∀k,zB6 bs kb n f k->¬S k):yV w' bs kb kv v n f:=by
 obtain⟨h0,a,aA,hv,bA,hc⟩:=h;refine⟨h0,a,aA,hv,bA,fun hn=>?_⟩;obtain⟨off,ha,h3⟩:=hc hn;exact⟨off,ha,fun i hi=>(h3 i hi).zRR t (hs _ (Or.inl ⟨hn,rfl⟩)) (fun h=>hs _ (Or.inr ⟨i,hi,h,rfl⟩))⟩
theorem yV.zRJ{w w':World}{bs:Nat}{kb:Nat->Nat}{kv:Nat->Value}{v:Value}{n:Nat}{f:Nat->zm}(h:yV w bs kb kv v n f)(t:Below w.heap.size w w'):yV w' bs kb kv v n f:=
 h.zRR (zF.zRM (S:=fun _=>False) t) (fun _ _ h=>h)
theorem yV.at{w:World}{bs:Nat}{kb:Nat->Nat}{kv:Nat->Value}{v:Value}{n:Nat}{f:Nat->zm}(h:yV w bs kb kv v n f){lo hi:Nat}(hb:∀k,zB6 bs kb n f k->lo<=k/\k<hi):yB w lo hi v n f:=by
 obtain⟨h0,a,aA,hv,bA,hc⟩:=h;refine⟨h0,a,aA,hv,bA,fun hn=>?_⟩;obtain⟨off,ha,h3⟩:=hc hn;have hx:=hb _ (Or.inl ⟨hn,rfl⟩);exact⟨bs,off,ha,hx.1,hx.2,fun i hi=>⟨_,(h3 i hi).cells (fun h=>hb _ (Or.inr ⟨i,hi,h,rfl⟩))⟩⟩
structure zCh (wr:World) (bs n k:Nat) (f:Nat->zm) (kb:Nat->Nat) (kv:Nat->Value):Prop where
 rows:∀j,j<n->zAG wr bs (0+j*8) (kb j) (kv j) (if j<k then f j else zHI)
 zRW:zBD kb k f
 zRY:∀j,j<k->0<(f j).dn->bs<kb j/\kb j<wr.heap.size
theorem zCh.zRJ{wr w':World}{bs n k:Nat}{f:Nat->zm}{kb:Nat->Nat}{kv:Nat->Value}(h:zCh wr bs n k f kb kv)(t:Below wr.heap.size wr w'):zCh w' bs n k f kb kv:=
 ⟨fun j hj=>(h.rows j hj).zRJ t,h.zRW,fun j hj h0=>by have:=h.zRY j hj h0;have:=t.size;omega⟩
theorem zCh.next{wr w1:World}{bs n k b:Nat}{f:Nat->zm}{kb:Nat->Nat}{kv:Nat->Value}{v:Value}(h:zCh wr bs n k f kb kv)(hk:k<n)(cA:bs<wr.heap.size)(t:Below wr.heap.size wr w1)
  (hp:zj w1 b v (f k).dn (f k).ds (f k).db) (hb:wr.heap.size<=b) (dA:b<w1.heap.size) (hs:(f k).name.size<=maxLen/\(f k).set.size<=maxLen) :
  zCh ((((((((w1.setCell ⟨bs,0+k*8,none⟩ (.int .i64 (f k).id)).setCell ⟨bs,0+k*8+1,none⟩ (.string (f k).name)).setCell ⟨bs,0+k*8+2,none⟩ (.string (f k).set)).setCell ⟨bs,0+k*8+3,none⟩ (.int .i64 (f k).zRT)).setCell ⟨bs,0+k*8+4,none⟩ (.int .i64 (f k).time)).setCell ⟨bs,0+k*8+5,none⟩ (.int .i64 (f k).rs)).setCell ⟨bs,0+k*8+6,none⟩ (.int .i64 (f k).rb)).setCell ⟨bs,0+k*8+7,none⟩ v) bs n (k+1) f (fun j=>if j=k then b else kb j) (fun j=>if j=k then v else kv j):=by
 have h':=h.zRJ t;refine⟨fun j hj=>?_,fun i j hi hj bA h1 h2=>?_,fun j hj h0=>?_⟩
 ·have aA:=h'.rows j hj;by_cases e:j=k
  ·subst e;simp only[if_true];rw[if_pos (by omega)];refine⟨?_,?_,?_,?_,?_,?_,?_,?_,?_,hs,fun _=>by omega⟩
   ·exact(((((((aA.c0.set _).zRK _ (Or.inr (by omega))).zRK _ (Or.inr (by omega))).zRK _ (Or.inr (by omega))).zRK _ (Or.inr (by omega))).zRK _ (Or.inr (by omega))).zRK _ (Or.inr (by omega))).zRK _ (Or.inr (by omega))
   ·exact(((((((aA.c1.zRK _ (Or.inr (by omega))).set _).zRK _ (Or.inr (by omega))).zRK _ (Or.inr (by omega))).zRK _ (Or.inr (by omega))).zRK _ (Or.inr (by omega))).zRK _ (Or.inr (by omega))).zRK _ (Or.inr (by omega))
   ·exact(((((((aA.c2.zRK _ (Or.inr (by omega))).zRK _ (Or.inr (by omega))).set _).zRK _ (Or.inr (by omega))).zRK _ (Or.inr (by omega))).zRK _ (Or.inr (by omega))).zRK _ (Or.inr (by omega))).zRK _ (Or.inr (by omega))
   ·exact(((((((aA.c3.zRK _ (Or.inr (by omega))).zRK _ (Or.inr (by omega))).zRK _ (Or.inr (by omega))).set _).zRK _ (Or.inr (by omega))).zRK _ (Or.inr (by omega))).zRK _ (Or.inr (by omega))).zRK _ (Or.inr (by omega))
   ·exact(((((((aA.c4.zRK _ (Or.inr (by omega))).zRK _ (Or.inr (by omega))).zRK _ (Or.inr (by omega))).zRK _ (Or.inr (by omega))).set _).zRK _ (Or.inr (by omega))).zRK _ (Or.inr (by omega))).zRK _ (Or.inr (by omega))
   ·exact(((((((aA.c5.zRK _ (Or.inr (by omega))).zRK _ (Or.inr (by omega))).zRK _ (Or.inr (by omega))).zRK _ (Or.inr (by omega))).zRK _ (Or.inr (by omega))).set _).zRK _ (Or.inr (by omega))).zRK _ (Or.inr (by omega))
   ·exact(((((((aA.c6.zRK _ (Or.inr (by omega))).zRK _ (Or.inr (by omega))).zRK _ (Or.inr (by omega))).zRK _ (Or.inr (by omega))).zRK _ (Or.inr (by omega))).zRK _ (Or.inr (by omega))).set _).zRK _ (Or.inr (by omega))
   ·exact(((((((aA.c7.zRK _ (Or.inr (by omega))).zRK _ (Or.inr (by omega))).zRK _ (Or.inr (by omega))).zRK _ (Or.inr (by omega))).zRK _ (Or.inr (by omega))).zRK _ (Or.inr (by omega))).zRK _ (Or.inr (by omega))).set _
   ·exact(((((((hp.put _ (by omega)).put _ (by omega)).put _ (by omega)).put _ (by omega)).put _ (by omega)).put _ (by omega)).put _ (by omega)).put _ (by omega)
  ·simp only[if_neg e];have es:(if j<k+1 then f j else zHI)=if j<k then f j else zHI:=by
    by_cases e2:j<k
    ·rw[if_pos e2,if_pos (by omega)]
    ·rw[if_neg e2,if_neg (by omega)]
   rw[es];refine⟨?_,?_,?_,?_,?_,?_,?_,?_,?_,aA.zRZ,aA.zRW⟩
   ·exact(((((((aA.c0.zRK _ (Or.inr (by omega))).zRK _ (Or.inr (by omega))).zRK _ (Or.inr (by omega))).zRK _ (Or.inr (by omega))).zRK _ (Or.inr (by omega))).zRK _ (Or.inr (by omega))).zRK _ (Or.inr (by omega))).zRK _ (Or.inr (by omega))
   ·exact(((((((aA.c1.zRK _ (Or.inr (by omega))).zRK _ (Or.inr (by omega))).zRK _ (Or.inr (by omega))).zRK _ (Or.inr (by omega))).zRK _ (Or.inr (by omega))).zRK _ (Or.inr (by omega))).zRK _ (Or.inr (by omega))).zRK _ (Or.inr (by omega))
   ·exact(((((((aA.c2.zRK _ (Or.inr (by omega))).zRK _ (Or.inr (by omega))).zRK _ (Or.inr (by omega))).zRK _ (Or.inr (by omega))).zRK _ (Or.inr (by omega))).zRK _ (Or.inr (by omega))).zRK _ (Or.inr (by omega))).zRK _ (Or.inr (by omega))
   ·exact(((((((aA.c3.zRK _ (Or.inr (by omega))).zRK _ (Or.inr (by omega))).zRK _ (Or.inr (by omega))).zRK _ (Or.inr (by omega))).zRK _ (Or.inr (by omega))).zRK _ (Or.inr (by omega))).zRK _ (Or.inr (by omega))).zRK _ (Or.inr (by omega))
   ·exact(((((((aA.c4.zRK _ (Or.inr (by omega))).zRK _ (Or.inr (by omega))).zRK _ (Or.inr (by omega))).zRK _ (Or.inr (by omega))).zRK _ (Or.inr (by omega))).zRK _ (Or.inr (by omega))).zRK _ (Or.inr (by omega))).zRK _ (Or.inr (by omega))
   ·exact(((((((aA.c5.zRK _ (Or.inr (by omega))).zRK _ (Or.inr (by omega))).zRK _ (Or.inr (by omega))).zRK _ (Or.inr (by omega))).zRK _ (Or.inr (by omega))).zRK _ (Or.inr (by omega))).zRK _ (Or.inr (by omega))).zRK _ (Or.inr (by omega))
   ·exact(((((((aA.c6.zRK _ (Or.inr (by omega))).zRK _ (Or.inr (by omega))).zRK _ (Or.inr (by omega))).zRK _ (Or.inr (by omega))).zRK _ (Or.inr (by omega))).zRK _ (Or.inr (by omega))).zRK _ (Or.inr (by omega))).zRK _ (Or.inr (by omega))
   ·exact(((((((aA.c7.zRK _ (Or.inr (by omega))).zRK _ (Or.inr (by omega))).zRK _ (Or.inr (by omega))).zRK _ (Or.inr (by omega))).zRK _ (Or.inr (by omega))).zRK _ (Or.inr (by omega))).zRK _ (Or.inr (by omega))).zRK _ (Or.inr (by omega))
   ·refine(((((((aA.zRX.zRR (zF.put _ _ _ _) ?_).zRR (zF.put _ _ _ _) ?_).zRR (zF.put _ _ _ _) ?_).zRR (zF.put _ _ _ _) ?_).zRR (zF.put _ _ _ _) ?_).zRR (zF.put _ _ _ _) ?_).zRR (zF.put _ _ _ _) ?_).zRR (zF.put _ _ _ _) ?_
    all_goals exact fun h0 hx=>aA.zRW h0 hx
 ·show(if i=k then b else kb i)≠(if j=k then b else kb j);by_cases e1:i=k
  ·by_cases e2:j=k
   ·omega
   ·rw[if_pos e1,if_neg e2];have:=h.zRY j (by omega) h2;omega
  ·by_cases e2:j=k
   ·rw[if_neg e1,if_pos e2];have:=h.zRY i (by omega) h1;omega
   ·rw[if_neg e1,if_neg e2];exact h.zRW i j (by omega) (by omega) bA h1 h2
 ·simp only[World.size_setCell];by_cases e:j=k
  ·rw[if_pos e];omega
  ·rw[if_neg e];have:=h'.zRY j (by omega) h0;omega
theorem zGF:(Tryz.prog.info? 99).map (fun i=>(i.zero,i.size,i.bytes))=some (some (.agg #[.int .i64 0,.string ⟨#[]⟩,.string ⟨#[]⟩,.int .i64 0,.int .i64 0,.int .i64 0,.int .i64 0,.slice none 0 0]),8,96):=by kernel_rfl
theorem zLC{w:World}{bs n j:Nat}(hj:j<n)(aA:bs=w.heap.size):zAG (w.alloc (.cells (zA2 #[.int .i64 0,.string ⟨#[]⟩,.string ⟨#[]⟩,.int .i64 0,.int .i64 0,.int .i64 0,.int .i64 0,.slice none 0 0] n) 99)) bs (0+j*8) 0 (.slice none 0 0) zHI:=by
 subst aA;have c0:=qu w #[.int .i64 0,.string ⟨#[]⟩,.string ⟨#[]⟩,.int .i64 0,.int .i64 0,.int .i64 0,.int .i64 0,.slice none 0 0] n j 0 99 hj (by simp);have c1:=qu w #[.int .i64 0,.string ⟨#[]⟩,.string ⟨#[]⟩,.int .i64 0,.int .i64 0,.int .i64 0,.int .i64 0,.slice none 0 0] n j 1 99 hj (by simp);have c2:=qu w #[.int .i64 0,.string ⟨#[]⟩,.string ⟨#[]⟩,.int .i64 0,.int .i64 0,.int .i64 0,.int .i64 0,.slice none 0 0] n j 2 99 hj (by simp);have c3:=qu w #[.int .i64 0,.string ⟨#[]⟩,.string ⟨#[]⟩,.int .i64 0,.int .i64 0,.int .i64 0,.int .i64 0,.slice none 0 0] n j 3 99 hj (by simp);have c4:=qu w #[.int .i64 0,.string ⟨#[]⟩,.string ⟨#[]⟩,.int .i64 0,.int .i64 0,.int .i64 0,.int .i64 0,.slice none 0 0] n j 4 99 hj (by simp);have c5:=qu w #[.int .i64 0,.string ⟨#[]⟩,.string ⟨#[]⟩,.int .i64 0,.int .i64 0,.int .i64 0,.int .i64 0,.slice none 0 0] n j 5 99 hj (by simp);have c6:=qu w #[.int .i64 0,.string ⟨#[]⟩,.string ⟨#[]⟩,.int .i64 0,.int .i64 0,.int .i64 0,.int .i64 0,.slice none 0 0] n j 6 99 hj (by simp);have c7:=qu w #[.int .i64 0,.string ⟨#[]⟩,.string ⟨#[]⟩,.int .i64 0,.int .i64 0,.int .i64 0,.int .i64 0,.slice none 0 0] n j 7 99 hj (by simp);refine⟨?_,?_,?_,?_,?_,?_,?_,?_,⟨Nat.zero_le _,none,0,rfl,Nat.le_refl _,fun h=>absurd h (Nat.lt_irrefl _)⟩,⟨Nat.zero_le _,Nat.zero_le _⟩,fun h=>absurd h (Nat.lt_irrefl _)⟩
 ·show zX _ _ _ (.int .i64 0);simpa using c0
 ·show zX _ _ _ (.string ⟨#[]⟩);simpa using c1
 ·show zX _ _ _ (.string ⟨#[]⟩);simpa using c2
 ·show zX _ _ _ (.int .i64 0);simpa using c3
 ·show zX _ _ _ (.int .i64 0);simpa using c4
 ·show zX _ _ _ (.int .i64 0);simpa using c5
 ·show zX _ _ _ (.int .i64 0);simpa using c6
 ·show zX _ _ _ (.slice none 0 0);simpa using c7
def qZ(w:World)(S:Nat->Prop)(v0 v1:Value)(p:zJ):Prop:=
 ∃(bs hb:Nat) (kb:Nat->Nat) (kv:Nat->Value),qV w bs kb kv v0 p.n p.s/\yS kb p.n p.s/\qk w hb v1 p.hn p.h/\(0<p.hn->¬yr bs kb p.n p.s hb)/\
  ∀k,yr bs kb p.n p.s k\/(0<p.hn/\k=hb)->S k
theorem zt.isIn{w:World}{lo hi:Nat}{S:Nat->Prop}{v0 v1:Value}{p:zJ}(h:zt w lo hi v0 v1 p)(hS:∀k,lo<=k->k<hi->S k):qZ w S v0 v1 p:=by
 obtain⟨bs,hb,kb,kv,h1,h2,h3,h4,h5⟩:=h;exact⟨bs,hb,kb,kv,h1,h2,h3,h4,fun k hk=>hS k (h5 k hk).1 (h5 k hk).2⟩
theorem qZ.own{w:World}{lo hi:Nat}{S:Nat->Prop}{v0 v1:Value}{p:zJ}(h:qZ w S v0 v1 p)(hS:∀k,S k->lo<=k/\k<hi):zt w lo hi v0 v1 p:=by
 obtain⟨bs,hb,kb,kv,h1,h2,h3,h4,h5⟩:=h;exact⟨bs,hb,kb,kv,h1,h2,h3,h4,fun k hk=>hS k (h5 k hk)⟩
theorem qZ.mono{w:World}{S T:Nat->Prop}{v0 v1:Value}{p:zJ}(h:qZ w S v0 v1 p)(hS:∀k,S k->T k):qZ w T v0 v1 p:=by
 obtain⟨bs,hb,kb,kv,h1,h2,h3,h4,h5⟩:=h;exact⟨bs,hb,kb,kv,h1,h2,h3,h4,fun k hk=>hS k (h5 k hk)⟩
theorem qZ.zRJ{w w':World}{S:Nat->Prop}{v0 v1:Value}{p:zJ}(h:qZ w S v0 v1 p)(t:Below w.heap.size w w'):qZ w' S v0 v1 p:=by
 obtain⟨bs,hb,kb,kv,h1,h2,h3,h4,h5⟩:=h;exact⟨bs,hb,kb,kv,h1.zRJ t,h2,h3.zRJ t,h4,h5⟩
theorem qZ.zRR{S T:Nat->Prop}{w w':World}{v0 v1:Value}{p:zJ}(h:qZ w S v0 v1 p)(t:zF T w w')(hs:∀k,S k->¬T k):qZ w' S v0 v1 p:=by
 obtain⟨bs,hb,kb,kv,h1,h2,h3,h4,h5⟩:=h;have out:∀k,yr bs kb p.n p.s k\/(0<p.hn/\k=hb)->¬T k:=fun k hk=>hs k (h5 k hk)
 exact⟨bs,hb,kb,kv,h1.zRR t (fun h0=>out _ (Or.inl (Or.inl ⟨h0,rfl⟩))) (fun i hi h=>out _ (Or.inl (Or.inr ⟨i,hi,h,rfl⟩))),h2,h3.zRR t (fun h0=>out _ (Or.inr ⟨h0,rfl⟩)),h4,h5⟩
theorem qZ.at{w:World}{S:Nat->Prop}{lo hi:Nat}{v0 v1:Value}{p:zJ}(h:qZ w S v0 v1 p)(hS:∀k,S k->lo<=k/\k<hi):zy w lo hi v0 v1 p:=(h.own hS).at
end Go.Proofs.YtmgeglgboadfiaaGreatDoor
