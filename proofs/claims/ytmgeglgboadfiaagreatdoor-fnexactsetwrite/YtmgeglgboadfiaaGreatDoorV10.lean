/- The map of homes: its keys, how many there are, what is looked up in it (no law is proved here). -/
import Derived.Test.YtmgeglgboadfiaaGreatDoorV9
import Derived.Deep.LoopGhost
import Derived.Shelf.Abstract
set_option linter.unusedVariables false
set_option maxRecDepth 20000
set_option maxHeartbeats 4000000
namespace Go.Proofs.YtmgeglgboadfiaaGreatDoor
open Go.RowKit Go.Maps
theorem zIC (W : zH) (m : zE6) : (yA W m).length <= 73 := by
  unfold yA zAQ yS;exact Nat.le_trans (List.length_filter_le _ _) (qL _ _ _)
theorem zJN (W : zH) : ∀ k, (zn W k).length <= 73 * k
  | 0 => by simp[zn]
  | k + 1 => by
    have h1 := zJN W k;have h2 := zIC W (zO W k);unfold zn;rw[List.length_append];omega
theorem zJj (W : zH) {k : Nat} : ∀ {n : Nat}, k <= n -> ∃ l, zn W n = zn W k ++ l
  | 0, h => ⟨[], by obtain rfl : k = 0 := by omega
                    simp⟩
  | n + 1, h => by
    by_cases e : k = n + 1
    · subst e;exact ⟨[], by simp⟩
    · obtain ⟨l, hl⟩ := zJj W (k := k) (n := n) (by omega)
      exact ⟨l ++ yA W (zO W n), by rw[show zn W (n + 1) = zn W n ++ yA W (zO W n) from rfl, hl, List.append_assoc]⟩
theorem zPt (W : zH) {k n j : Nat} (hk : k < n) (hj : j < (yA W (zO W k)).length) : (zn W k).length + j < (zn W n).length /\ (zn W n).getD ((zn W k).length + j) (0, 0) = (yA W (zO W k)).getD j (0, 0) := by
  obtain ⟨l, hl⟩ := zJj W (k := k + 1) (n := n) (by omega);rw[hl, show zn W (k + 1) = zn W k ++ yA W (zO W k) from rfl];constructor
  · simp only[List.length_append];omega
  · rw[List.getD_eq_getElem?_getD, List.getD_eq_getElem?_getD, List.append_assoc, List.getElem?_append_right (by omega), show (zn W k).length + j - (zn W k).length = j by omega, List.getElem?_append_left hj]
def zLK (x : Int × Int) : Value := .agg #[.int .i64 x.1, .int .i64 x.2]
/-- The keys of the homes, one behind the other. -/
structure yo (W : zH) (key : Nat -> Lit) : Prop where
  ok : zDj key
  at_ : ∀ i, i < (zn W (zq W)).length -> keyOf Tryz.prog 61 (zLK ((zn W (zq W)).getD i (0, 0))) = some (key i)
theorem zKN {W : zH} (hR : zx W.zRd) (hT : ∀ i, i < zq W -> qH W.zRd (zO W i).rs (zO W i).rb) {x : Int × Int} (hx : x ∈ zn W (zq W)) : zr W.zRd x.1 x.2 := by
  obtain ⟨i, hi, h⟩ := zDZ.1 hx;unfold yA zAQ yS at h;exact (zAX hR (hT i hi) (List.mem_filter.1 h).1).1
theorem zPZ {l : List (Int × Int)} {i : Nat} (h : i < l.length) : l.getD i (0, 0) ∈ l := by
  rw[List.getD_eq_getElem?_getD, List.getElem?_eq_getElem h, Option.getD_some];exact List.getElem_mem h
theorem zOZ {W : zH} (hR : zx W.zRd) (hT : ∀ i, i < zq W -> qH W.zRd (zO W i).rs (zO W i).rb) : ∃ key, yo W key := by
  have aA : ∀ i, ∃ l, WideAt.IsKeyLit l /\ (i < (zn W (zq W)).length -> keyOf Tryz.prog 61 (zLK ((zn W (zq W)).getD i (0, 0))) = some l) := fun i => by
    by_cases hi' : i < (zn W (zq W)).length
    · have hp := zKN hR hT (zPZ hi')
      generalize (zn W (zq W)).getD i (0, 0) = x at hp ⊢;have hf := (qS hR hp).1;have bA := hR.1;obtain ⟨h1, h2, h3, h4⟩ := hp;rw[h4]at hf;obtain ⟨f1, f2⟩ := hf;obtain ⟨l, hl⟩ := zQJ (x := x.1) (y := x.2) (WalkArith.wf_i64 (by omega)) (WalkArith.wf_i64 (by omega));exact ⟨l, zQ6.key hl, fun _ => hl⟩
    · exact ⟨.string [], trivial, fun h => absurd h hi'⟩
  exact ⟨fun i => (aA i).choose, fun i => (aA i).choose_spec.1, fun i => (aA i).choose_spec.2⟩
theorem zNy {x y : Int × Int} (h : zLK x = zLK y) : x = y := by
  unfold zLK at h;simp only[Value.agg.injEq, Array.mk.injEq, List.cons.injEq, Value.int.injEq, true_and, and_true]at h;exact Prod.ext h.1 h.2
theorem yo.same {W : zH} {key : Nat -> Lit} (h : yo W key) {i j : Nat} (hi : i < (zn W (zq W)).length) (hj : j < (zn W (zq W)).length) : key i = key j ↔ (zn W (zq W)).getD i (0, 0) = (zn W (zq W)).getD j (0, 0) := by
  have h1 := h.at_ i hi;have h2 := h.at_ j hj;constructor
  · intro e
    rw[e]at h1;exact zNy (zQ6.inj h1 h2)
  · intro e
    rw[e, h2]at h1;exact (Option.some.inj h1).symm
theorem yo.dist {W : zH} {key : Nat -> Lit} (h : yo W key) : zGG (zn W (zq W)).length key ↔ (zn W (zq W)).Nodup := by
  rw[List.Nodup, List.pairwise_iff_getElem];have hg : ∀ i (hi : i < (zn W (zq W)).length), (zn W (zq W)).getD i (0, 0) = (zn W (zq W))[i] := fun i hi => by rw[List.getD_eq_getElem?_getD, List.getElem?_eq_getElem hi, Option.getD_some]
  constructor
  · intro hd i j hi hj aA e
    refine hd j hj i aA ((h.same hi hj).2 ?_);rw[hg i hi, hg j hj];exact e
  · intro hd i hi k hk e
    have := (h.same (by omega) hi).1 e;rw[hg k (by omega), hg i hi]at this;exact hd k i (by omega) hi hk this
/-- The map behind the first p homes. -/
def zJb (key : Nat -> Lit) (p : Nat) : DataW Value := putD key (fun _ => .int .i64 1) p
theorem yo.zRZ {W : zH} {key : Nat -> Lit} {p : Nat} (hn : ∀ i, i < p -> key i ≠ key p) (h : yo W key) : (zJb key p).atKey (key p) (.held (.int .i64 0)) = .held (.int .i64 0) := zGs h.ok _ hn _
theorem yo.old {W : zH} {key : Nat -> Lit} {p i : Nat} (hi : i < p) (he : key i = key p) (hd : zGG p key) (h : yo W key) : (zJb key p).atKey (key p) (.held (.int .i64 0)) = .held (.int .i64 1) := by
  rw[<- he];exact zK2 h.ok _ _ p i hi (fun j h1 h2 e => hd j h2 i h1 e.symm)
theorem yo.put {W : zH} {key : Nat -> Lit} (h : yo W key) (p : Nat) (v : Value) : ((zJb key p).put (key p) (.held v)).atKey (key p) (.held (.int .i64 0)) = .held v := atKey_put_same (zCY h.ok _ p).isMap (h.ok p) _ _
theorem yo.not_nodup {W : zH} {key : Nat -> Lit} {p i : Nat} (hi : i < p) (hp : p < (zn W (zq W)).length) (he : key i = key p) (h : yo W key) : ¬ (zn W (zq W)).Nodup := fun hn => h.dist.2 hn p hp i hi he
theorem yo.size {W : zH} {key : Nat -> Lit} (h : yo W key) {p : Nat} (hd : zGG p key) : Maps.size (zJb key p) = p := (zGj h.ok _ p).2.2 hd
theorem zGZ(v0 v1:Value)(lo hi:Nat)(p:zI)(w:World)(h1:zu w lo hi v0 v1 p) :
  Calls Tryz.prog 227 #[.agg #[v0,v1]] w fun e w'=>e = .returned (.int .i64 (zNe p))/\Below w.heap.size w w':=by
 have Hp:Hid (zu w lo hi v0 v1 p):=h1;obtain⟨⟨m1,a,c,rfl,mc,g1⟩,⟨m2,a',c',rfl,kA,g2⟩⟩:=h1;unfold maxLen at m1 m2;clear g1 g2;have ha:=zC w (.cells #[.slice a p.n c,.slice a' p.hn c'] 33);go_enter Tryz.func227,Tryz.ntmps227;go_wp2_with fail;refine(yw _ _ lo hi p _ (Hp.out.zRX ha)).mono ?_;rintro e w1 ⟨⟨t,rfl,ht⟩,aA⟩;have Hx:Hid (zc w1 w.heap.size (.slice a p.n c) (.slice a' p.hn c')):=(zc.zRZ w _ _ _).zRX aA;have cA:=zA ha aA;clear ha aA;by_cases hR:zx p
 ·obtain rfl:t=true:=ht.2 hR;have HR:Hid (zx p):=hR;have dA:(p.n:Int)<=200:=(by have:=hR.1;omega);clear ht hR;obtain⟨⟨y0,y1⟩,⟨y2,y3⟩⟩:=Hx.out;have gA:Hid (zNe p=(roomN p.s p.n:Int)):=if_pos HR.out;have HB:Hid (Below w.heap.size w w1):=cA;go_wp2;clear y0 y1 y2 y3 cA
  go_loopw [3,12] (fun m i wr=>∃k:Nat,k<=p.n/\i = .int .i64 k/\m = .int .i64 (roomN p.s k:Int)/\Below w.heap.size w wr) (fun _ i _=>p.n - (intOf i).toNat)
  case atStart=>exact⟨0,Nat.zero_le _,rfl,rfl,HB.out⟩
  case round=>
   obtain⟨k,hk,rfl,rfl,hb⟩:=hrel;have jA:=zFl p.s k;by_cases fA:k<p.n
   ·have iA:(k:Int)<(p.n:Int):=(by omega);obtain⟨b,off,ka,kc,rfl,hs⟩:=(Hp.out.1.zRX hb).cells fA;have Hs:Hid (zAd wr b (off+k*3) lo hi ka kc (p.s k)):=hs;obtain⟨q0,q1,q2,_⟩:=hs;go_wp2_with fail;have bA:=zC wr (.cells #[.int .i64 (p.s k).zRi,.slice ka (p.s k).kn kc,.string (p.s k).data] 127);refine(zBv _ _ _ lo hi (p.s k) _ (Hs.out.slot.zRX bA)).mono ?_;rintro e w2 ⟨⟨t,rfl,ht⟩,aA⟩;have eA:=zA hb (zA bA aA);clear aA q0 q1 q2 Hs bA;by_cases hf:qE (p.s k)
    ·obtain rfl:t=true:=ht.2 hf;have HF:Hid (qE (p.s k)):=hf;clear ht hf;go_wp2;go_roundw
     case rel=>exact⟨k+1,by omega,by go_num,congrArg (Value.int .i64) (by rw[zBu HF.out];omega),eA⟩
     case measure=>simp[intOf];omega
    ·obtain rfl:t=false:=zQ ht hf;have HF:Hid (¬qE (p.s k)):=hf;clear ht hf;go_wp2;go_roundw
     case rel=>exact⟨k+1,by omega,by go_num,congrArg (Value.int .i64) (by rw[zCD HF.out]),eA⟩
     case measure=>simp[intOf];omega
   ·obtain rfl:k=p.n:=(by omega);go_wp2;go_ret;exact⟨by rw[gA.out];rfl,hb⟩
 ·obtain rfl:t=false:=zQ ht hR;have HR:Hid (¬zx p):=hR;clear ht hR;go_wp2;go_ret;refine⟨?_,cA⟩;have e:zNe p=0:=if_neg HR.out;rw[e];rfl
theorem zBx{P:Program}{k:TypeId}{w w1:World}{M n g o:Nat}{D:DataW Value}{v:Value}(hg:w.grownBy w1 (some M))(hm:w.ownsMap P k zCS M n D)(h:w.cell? ⟨g,o,none⟩=some v):w1.cell? ⟨g,o,none⟩=some v:=by
 refine(hg.cell_far ⟨g,o,none⟩ (zD h) ?_).trans h;intro e;simp only[Option.some.injEq]at e;subst e;obtain⟨es,aA,hb,-⟩:=hm;simp[World.cell?,hb]at h
theorem zBs{w w1 w2:World}{row:Option Nat}(h:w.grownBy w1 row)(k:w1.grownBy w2 row):w.grownBy w2 row:=
 ⟨k.os.trans h.os,k.tape.trans h.tape,k.output.trans h.output,Nat.le_trans h.size k.size,fun i hi aA=>(k.block i (Nat.lt_of_lt_of_le hi h.size) aA).trans (h.block i hi aA)⟩
theorem zFd.side{P:Program}{kt:TypeId}{w w1:World}{M n lo hi:Nat}{D:DataW Value}{v:Value}{W:zH}{vd:Nat->Value}(h:zFd w lo hi v W vd)(hg:w.grownBy w1 (some M))(hm:w.ownsMap P kt zCS M n D)(i:Nat)(hi':i<zq W) :
  ∃g c,v = .slice (some ⟨g,0,none⟩) (zq W) c/\w1.cell? ⟨g,i*5,none⟩=some (.int .i64 (zO W i).zRh)/\w1.cell? ⟨g,i*5+1,none⟩=some (.int .i64 (zO W i).time)/\w1.cell? ⟨g,i*5+2,none⟩=some (.int .i64 (zO W i).rs)/\w1.cell? ⟨g,i*5+3,none⟩=some (.int .i64 (zO W i).rb)/\w1.cell? ⟨g,i*5+4,none⟩=some (vd i):=by
 obtain⟨g,c,e,h0,h1,h2,h3,h4⟩:=h.cells i hi';exact⟨g,c,e,zBx hg hm h0,zBx hg hm h1,zBx hg hm h2,zBx hg hm h3,zBx hg hm h4⟩
theorem zi.side{w w1:World}{M b:Nat}{a0 a1 a2 a3 a4 a5:Value}(h:zi w b a0 a1 a2 a3 a4 a5)(hg:w.grownBy w1 (some M))(aA:b≠M):zi w1 b a0 a1 a2 a3 a4 a5:=by
 obtain⟨h0,h1,h2,h3,h4,h5⟩:=h;have hc:∀{o:Nat} {v:Value},zW w b o v->zW w1 b o v:=fun hc=>⟨(hg.cell_far _ (zD hc.1) (fun e=>aA (Option.some.inj e))).trans hc.1,(hg.frozen_far _ (zD hc.1) (fun e=>aA (Option.some.inj e))).trans hc.2⟩
 exact⟨hc h0,hc h1,hc h2,hc h3,hc h4,hc h5⟩
theorem zNP(v:Value)(s:zl)(w:World):(Instr.field 99 (yd v s) 4).run Tryz.prog w = .ok (.int .i64 s.time) w:=by kernel_rfl
theorem zQj:Go.WideMaps.KeyLaw Tryz.prog 61:=deep_law_laid zPW (m:=5) (by decide) (zPU (by kernel_rfl)) (by kernel_rfl) (by kernel_rfl)
theorem zHd:Tryz.prog.underlying 251=some (.map 61 2):=by kernel_rfl
theorem zPC(w:World):(zeroValue 2).run Tryz.prog w = .ok (.int .i64 0) w:=by kernel_rfl
theorem wrap_small{n:Int}(h0:-9223372036854775808<=n)(h1:n<9223372036854775808):IntKind.i64.wrap n=n:=by
 unfold IntKind.wrap;simp only[IntKind.signed,IntKind.bits,Bool.true_and];split
 ·rename_i hc
  have aA:=of_decide_eq_true hc;omega
 ·rename_i hc
  have aA:=of_decide_eq_false (Bool.eq_false_iff.2 hc);omega
theorem zMs{N n r h:Nat}(hr:r<=n)(hn:n<=200)(hh:h<=9223372036854775807):((N:Int) == IntKind.i64.wrap (IntKind.i64.wrap ((n:Int) - (r:Int)) - (h:Int)))=true↔N+r+h=n:=by
 have e1:IntKind.i64.wrap ((n:Int) - (r:Int))=(n:Int) - (r:Int):=wrap_small (by omega) (by omega);rw[e1];have e2:IntKind.i64.wrap ((n:Int) - (r:Int) - (h:Int))=(n:Int) - (r:Int) - (h:Int):=wrap_small (by omega) (by omega);rw[e2,beq_iff_eq];omega
theorem zGC{w:World}{b n:Nat}{D:DataW Value}{ky v:Value}{kl:Lit}(h:w.ownsMap Tryz.prog 61 zCS b n D)(bA:keyOf Tryz.prog 61 ky=some kl)(cA:D.atKey kl (.held (.int .i64 0)) = .held v):(Instr.lookup 251 (.map (some b)) ky false).run Tryz.prog w = .ok v w:=by
 obtain⟨v',ps,aA,hv⟩:=h.lookup zQ6 zHd (zPC w) (zBz _) bA;have e1:=zEc hv;rw[cA]at e1;obtain rfl:=DataW.held.inj e1;exact aA
theorem zIX(v0 v1 v2 v3:Value)(lo hi:Nat)(W:zH)(A:Nat)(w:World)(h:zk w lo hi v0 v1 v2 v3 W)(hs:W.sn<=8)(hp:W.pn<=20)(hA:zBW w lo hi W A)(hD:zCU W)(jD:zCQ W)(hR:zx W.zRd)(hT:zKQ W)(pC:∀i,i<zq W->qH W.zRd (zO W i).rs (zO W i).rb) :
  Calls Tryz.prog 208 #[zz v0 v1 v2 v3 W,zGX A] w fun e w'=>zG (zFs W) e/\Below w.heap.size w w':=by
 obtain⟨key,hK⟩:=zOZ hR pC;have HK:=zB hK;have Hp:=zB h;have HA:=zB hA;have HD:=zB hD;have sE:=zB jD;have HR:=zB hR;have cE:=zB hT;have gE:=zB pC;clear h hA hD jD hR hT pC hK;have ha:=zC w (.cells #[v0,v1,.int .i64 W.time,.int .i64 W.next,v2,v3] 37);have HB:=zB (zi.zRZ w v0 v1 (.int .i64 W.time) (.int .i64 W.next) v2 v3 37);have dD:(w.alloc (.cells #[v0,v1,.int .i64 W.time,.int .i64 W.next,v2,v3] 37)).heap.size=w.heap.size+1:=World.size_alloc _ _;have hm:=World.ownsMap_made (w.alloc (.cells #[v0,v1,.int .i64 W.time,.int .i64 W.next,v2,v3] 37)) Tryz.prog 61 zCS;rw[dD]at hm;have HM:=zB hm;have sB:=zB (HB.out.zRX (zC _ (.map #[] 0)));have vB:=zB (zA ha (zC _ (.map #[] 0)));have mF:=@run_makeMap Tryz.prog;obtain⟨⟨x0,-⟩,⟨x2,-⟩,⟨x4,-⟩,⟨x6,-⟩,⟨x8,-⟩,⟨lE,-⟩⟩:=sB.out;clear hm;go_enter Tryz.func208,Tryz.ntmps208;go_wp2_with fail;go_step3;go_wp2_with fail;go_step3;go_wp2_with fail;clear x0 x2 x4 x6 x8 lE ha HB;have kC:=zB (show((w.alloc (.cells #[v0,v1,.int .i64 W.time,.int .i64 W.next,v2,v3] 37)).alloc (.map #[] 0)).heap.size=w.heap.size+2 by rw[World.size_alloc,dD]);clear dD;generalize (w.alloc (.cells #[v0,v1,.int .i64 W.time,.int .i64 W.next,v2,v3] 37)).alloc (.map #[] 0)=W0 at HM sB vB kC ⊢;refine(zDN v0 v1 v2 v3 lo hi W W0 (Hp.out.zRX vB.out) hs hp).mono ?_;rintro e w1 ⟨vm,vd,rfl,hm,mB⟩;have vD:=zB hm;have sD:=zB (sB.out.zRX mB);have mD:=zB (HM.out.kept (yt mB none) (by simp));have rE:=zA vB.out mB;have hz:w.heap.size+2<=w1.heap.size:=by have h1:=mB.size;have h2:=kC.out;omega
 obtain⟨am,cm,rfl,lF⟩:=id hm.form;have jF:zq W<=28:=by unfold zq;omega
 clear mB hm sB vB HM kC;go_wp2
 go_loopw [6,15] (fun s i wr=>∃k:Nat,k<=zq W/\s = .bool true/\i = .int .i64 k/\wr.ownsMap Tryz.prog 61 zCS (w.heap.size+1) (zn W k).length (zJb key (zn W k).length)/\zGG (zn W k).length key/\w1.grownBy wr (some (w.heap.size+1))/\Below w.heap.size w wr) (fun _ i _=>zq W - (intOf i).toNat)
 case atStart=>exact⟨0,Nat.zero_le _,rfl,rfl,mD.out,fun i hi=>absurd hi (Nat.not_lt_zero _),World.grownBy.refl _ _,rE⟩
 case round=>
  obtain⟨k,hk,rfl,rfl,gA,sA,dB,hb⟩:=hrel;have cA:=zB gA;have lA:=zB sA;have fA:=zB dB;clear gA sA dB;by_cases nB:k<zq W;rotate_left
  ·obtain rfl:k=zq W:=(by omega);obtain⟨⟨m0,a0,c0,rfl,tF,-⟩,⟨m1,a1,c1,rfl,vF,-⟩⟩:=id Hp.out.zRd;have sC:=HK.out.size lA.out;have aE:=(cA.out.kept (yt ((Below.refl _ _).drew) none) (by simp)).len zHd 3;rw[sC]at aE;have cF:=zB sC;clear sC;have tA:=zFl W.zRd.s W.zRd.n;have oB:=HR.out.1;unfold maxLen at m0 m1;have nA:=zB (sD.out.side fA.out (by omega));obtain⟨⟨x0,-⟩,⟨x1,-⟩,⟨x2,-⟩,⟨x3,-⟩,⟨x4,-⟩,⟨x5,-⟩⟩:=nA.out;have bE:=zB (HK.out.dist.1 lA.out);have iE:zNe W.zRd=(roomN W.zRd.s W.zRd.n:Int):=if_pos HR.out;generalize hN:(zn W (zq W)).length=N at *;have HN:=zB hN;clear hN;go_wp2_with fail;go_region_held3 (fun w'=>w'.cell? ⟨w.heap.size,0,none⟩=some (.slice a0 W.zRd.n c0)/\w'.cell? ⟨w.heap.size,1,none⟩=some (.slice a1 W.zRd.hn c1)/\(Builtin.len_ #[251] 3 #[.map (some (w.heap.size+1))]).run Tryz.prog w' = .ok (.int .i64 (N:Nat)) w') (go_keep)
    (first
     | (go_at_call 227;refine(zGZ _ _ lo hi W.zRd _ ((Hp.out.zRX hb).zRd.zRX (Below.refl _ _).drew)).mono ?_;rintro e w5 ⟨rfl,rB⟩;have pA:=zK rB;obtain⟨⟨k0,_⟩,⟨k1,_⟩,_⟩:=nA.out.zRX pA;have kD:=(cA.out.kept (yt pA none) (by simp)).len zHd 3;rw[cF.out]at kD))
   have iB:=zMs (N:=N) tA oB (by omega:W.zRd.hn<=9223372036854775807);have gC:=zB iB;have oE:=zA hb pA;clear iB aE kD iE tA oB;go_wp2
   try rw[Exit.noGoto_ret]
   go_ret;refine⟨⟨_,rfl,?_⟩,oE⟩;rw[gC.out];unfold zFs;rw[HN.out];exact⟨fun hx=>⟨bE.out,hx⟩,fun hx=>hx.2⟩
  have fE:(k:Int)<(zq W:Int):=(by omega);obtain⟨g,cg,e,q0,q1,q2,q3,q4⟩:=vD.out.side fA.out mD.out k nB;obtain⟨-,ad,cd,tD,-,-⟩:=id (vD.out.zRl k nB);rw[tD]at q4;cases e;have oA:=zC wr (.cells #[.int .i64 (zO W k).zRh,.int .i64 (zO W k).time,.int .i64 (zO W k).rs,.int .i64 (zO W k).rb,.slice ad (zO W k).dn cd] 224);have HV:=zB (zEG.zRZ wr (.int .i64 (zO W k).zRh) (.int .i64 (zO W k).time) (.int .i64 (zO W k).rs) (.int .i64 (zO W k).rb) (.slice ad (zO W k).dn cd) 224);have nA:=zB ((sD.out.side fA.out (by omega)).zRX oA);have bC:=zA hb oA;have kA:=zB (cA.out.kept (yt oA none) (by simp));have rA:=zB (zBs fA.out (yt oA (some (w.heap.size+1))));have fC:=zB (HA.out.zRX bC);have rC:=zB (Hp.out.zRX bC);have aF:=zB (sE.out k nB);have nC:=zB (gE.out k nB);have bD:=zB (cE.out (zO W k).zRh);have jC:=zB (show yA W (zO W k)=zAQ (zR W.zRd (zO W k).rs (zO W k).rb) (zN W (zO W k).zRh).time from rfl);have fB:=zB (show(zn W (k+1)).length=(zn W k).length+(yA W (zO W k)).length from List.length_append);have mE:=zB (fun (j:Nat) (hj:j<(yA W (zO W k)).length)=>zPt W (k:=k) (n:=zq W) nB hj);have eE:=zB (zIC W (zO W k));have nE:=zB (zJN W k);clear tD oA fA cA;generalize zO W k=mk at *;go_wp2_with fail;clear q0 q1 q2 q3 q4;have cB:=zB (show w.heap.size+2<=(wr.alloc (.cells #[.int .i64 mk.zRh,.int .i64 mk.time,.int .i64 mk.rs,.int .i64 mk.rb,.slice ad mk.dn cd] 224)).heap.size from Nat.le_trans hz rA.out.size);generalize wr.alloc (.cells #[.int .i64 mk.zRh,.int .i64 mk.time,.int .i64 mk.rs,.int .i64 mk.rb,.slice ad mk.dn cd] 224)=W2 at HV nA fC rC bC kA rA cB ⊢;generalize wr.heap.size=V at HV ⊢;obtain⟨⟨y0,-⟩,⟨y1,-⟩,⟨y2,-⟩,⟨y3,-⟩,⟨y4,-⟩⟩:=HV.out;obtain⟨⟨x0,-⟩,⟨x1,-⟩,⟨x2,-⟩,⟨x3,-⟩,⟨x4,-⟩,⟨x5,-⟩⟩:=nA.out;have pE:=qL W.zRd mk.rs mk.rb;have iC:=zB (show qm (zR W.zRd mk.rs mk.rb).length (zf (zR W.zRd mk.rs mk.rb)) (zh (zR W.zRd mk.rs mk.rb))from zBK HR.out (fun x hx=>(zAX HR.out nC.out hx).1) (zAk HR.out nC.out) (by omega));have tE:=zD2;have dF:=zNP;generalize nD:zN W mk.zRh=S at bD jC ⊢;have dE:=zB nD;clear nD;generalize gD:zR W.zRd mk.rs mk.rb=tree at iC pE jC ⊢;have bF:=zB gD;clear gD;go_region_held3 (fun w'=>w'.cell? ⟨w.heap.size,0,none⟩=some v0/\w'.cell? ⟨w.heap.size,1,none⟩=some v1/\w'.cell? ⟨w.heap.size,2,none⟩=some (.int .i64 W.time)/\w'.cell? ⟨w.heap.size,3,none⟩=some (.int .i64 W.next)/\w'.cell? ⟨w.heap.size,4,none⟩=some v2/\w'.cell? ⟨w.heap.size,5,none⟩=some v3/\w'.cell? ⟨V,0,none⟩=some (.int .i64 mk.zRh)/\w'.cell? ⟨V,2,none⟩=some (.int .i64 mk.rs)/\w'.cell? ⟨V,3,none⟩=some (.int .i64 mk.rb)) (go_keep)
   (first
    | (go_at_call 226;refine(zBw v0 v1 v2 v3 lo hi W mk.rs mk.rb _ ?_ HR.out nC.out).mono ?_;(exact rC.out.zRX (Below.refl _ _).drew);rintro e w5 ⟨vt,rfl,cC,rB⟩;rw[bF.out]at cC;obtain⟨sF,kF,rfl,-⟩:=zY cC;have pA:=zK rB;obtain⟨⟨k0,_⟩,⟨k1,_⟩,⟨k2,_⟩,⟨k3,_⟩,⟨k4,_⟩,⟨k5,_⟩⟩:=nA.out.zRX pA;obtain⟨⟨l0,_⟩,_,⟨l2,_⟩,⟨l3,_⟩,_⟩:=HV.out.zRX pA)
    | (go_at_call 190;refine(zBt lo hi W A mk.zRh _ (fC.out.zRX pA) HD.out aF.out hp).mono ?_;rintro e w6 ⟨aa,ca,rfl,vE,cD⟩;rw[dE.out];have tB:=zA pA cD;obtain⟨⟨f0,_⟩,⟨f1,_⟩,⟨f2,_⟩,⟨f3,_⟩,⟨f4,_⟩,⟨f5,_⟩⟩:=nA.out.zRX tB;obtain⟨⟨g0,_⟩,_,⟨g2,_⟩,⟨g3,_⟩,_⟩:=HV.out.zRX tB)
    | (go_at_call 151;refine(zA2 _ tree.length 0 _ (zf tree) (zh tree) S.time _ ((cC.zRX cD).atW (by omega))).mono ?_;rintro e w7 ⟨vy,vz,ly,lz,rfl,hY,-,hy,-,-,oD⟩;rw[(hY.1 ⟨iC.out,bD.out⟩).trans (zF4 tree S.time)]at hy;rw[<-jC.out]at hy;obtain⟨ay,cy,rfl,aG⟩:=zY hy;have vA:=zA tB oD;obtain⟨⟨m0,_⟩,⟨m1,_⟩,⟨m2,_⟩,⟨m3,_⟩,⟨m4,_⟩,⟨m5,_⟩⟩:=nA.out.zRX vA;obtain⟨⟨n0,_⟩,_,⟨n2,_⟩,⟨n3,_⟩,_⟩:=HV.out.zRX vA))
  have HY:=zB hy;have jA:=zB (kA.out.kept (yt vA none) (by simp));have oC:=zB (zBs rA.out (yt vA (some (w.heap.size+1))));have pF:=zB (nA.out.zRX vA);have bB:=zA bC vA;have gF:w.heap.size+2<=w7.heap.size:=Nat.le_trans cB.out vA.size;have nF:=eE.out;have iF:=nE.out;clear hy vA oD tB cD pA rB cC vE hY nA HV fC rC kA rA cB iC bD tE dF x0 x1 x2 x3 x4 x5 y0 y1 y2 y3 y4 k0 k1 k2 k3 k4 k5 l0 l2 l3 f0 f1 f2 f3 f4 f5 g0 g2 g3 m0 m1 m2 m3 m4 m5 n0 n2 n3;generalize rF:yA W mk=yl at *;go_wp2_with fail
  go_loopw [6,31] (fun s i wr=>∃j:Nat,j<=yl.length/\s = .bool true/\i = .int .i64 j/\wr.ownsMap Tryz.prog 61 zCS (w.heap.size+1) ((zn W k).length+j) (zJb key ((zn W k).length+j))/\zGG ((zn W k).length+j) key/\w7.grownBy wr (some (w.heap.size+1))/\Below w.heap.size w wr) (fun _ i _=>yl.length - (intOf i).toNat)
  case atStart=>exact⟨0,Nat.zero_le _,rfl,rfl,jA.out,lA.out,World.grownBy.refl _ _,bB⟩
  case round=>
   clear bB;obtain⟨j,hj,rfl,rfl,gA,pD,dB,bB⟩:=hrel;have cA:=zB gA;have pB:=zB pD;have fA:=zB dB;clear gA pD dB;by_cases eD:j<yl.length;rotate_left
   ·obtain rfl:j=yl.length:=(by omega);go_wp2;go_roundw
    case rel=>
     refine⟨k+1,by omega,rfl,by go_num,?_,?_,zBs oC.out fA.out,bB⟩
     ·rw[fB.out];exact cA.out
     ·rw[fB.out];exact pB.out
    case measure=>simp[intOf];omega
   have eF:(j:Int)<(yl.length:Int):=(by omega);obtain⟨-,a7,c7,e7,-,jB⟩:=id (HY.out.atW (by omega));cases e7;obtain⟨b7,o7,rfl,-,-,jB⟩:=jB (by omega);have q0:=zBx fA.out jA.out (jB j eD).1;have q1:=zBx fA.out jA.out (jB j eD).2;clear jB;obtain⟨eC,iD⟩:=mE.out j eD;have eB:keyOf Tryz.prog 61 (.agg #[.int .i64 (zf yl j),.int .i64 (zh yl j)])=some (key ((zn W k).length+j)):=by
    have:=HK.out.at_ _ eC;rw[iD]at this;exact this
   have jE:=zB eC;have dA:=zB eB;clear iD eC eB;have oA:=zC wr (.cells #[.int .i64 (zf yl j),.int .i64 (zh yl j)] 61);have HV:=zB (zc.zRZ wr (.int .i64 (zf yl j)) (.int .i64 (zh yl j)) 61);have bA:=zB ((cA.out.kept (yt oA none) (by simp)).kept (yt ((Below.refl _ _).drew) none) (by simp));have lB:=zB (zBs fA.out (yt oA (some (w.heap.size+1))));have aB:=zA bB oA;have iA:=zB (show w.heap.size+1<wr.heap.size by have:=fA.out.size;omega);clear oA fA cA;have oF:(zn W k).length+j<=3000:=(by omega);generalize rD:(zn W k).length+j=p at *;have lD:=zB rD;clear rD;generalize zf yl j=xs at *;generalize zh yl j=xb at *;go_wp2_with fail;clear q0 q1;generalize wr.alloc (.cells #[.int .i64 xs,.int .i64 xb] 61)=W3 at HV bA lB aB ⊢;generalize wr.heap.size=V at HV iA ⊢;by_cases eA:∀i,i<p->key i≠key p
   ·have mC:=zGC bA.out dA.out (HK.out.zRZ eA);obtain⟨ev,st,wa,wb,he,tC,kB,aA,lC,mA⟩:=zJd bA.out zQj zHd (by unfold maxLen;omega) zPC dA.out (HK.out.zRZ eA) (val:=.int .i64 1);obtain⟨⟨y0,-⟩,⟨y1,-⟩⟩:=HV.out.zRX ((Below.refl _ _).drew);have z0:=(mA.cell_far _ (zD y0) (fun e=>by have h1:=Option.some.inj e;have h2:=iA.out;simp only at h1;omega)).trans y0;have z1:=(mA.cell_far _ (zD y1) (fun e=>by have h1:=Option.some.inj e;have h2:=iA.out;simp only at h1;omega)).trans y1;have fF:=zGC aA dA.out (HK.out.put p _);have gB:=zB aA;have kE:=zB (zBs (zBs lB.out (yt ((Below.refl _ _).drew) (some (w.heap.size+1)))) mA);have fD:=aB.drew.grown mA (Nat.le_trans aB.size (Nat.le_refl _)) (fun q e=>by cases e;omega);have aD:=zB eA;clear aA lC mA eA aB bB;unfold goInt at he kB;go_region;clear mC tC he kB y0 y1;go_wp2;go_roundw
    case rel=>exact⟨j+1,by omega,rfl,by go_num,by rw[show(zn W k).length+(j+1)=p+1 by have:=lD.out;omega];exact gB.out,by rw[show(zn W k).length+(j+1)=p+1 by have:=lD.out;omega];exact zFe.2 ⟨pB.out,aD.out⟩,kE.out,fD⟩
    case measure=>simp[intOf];omega
   ·obtain⟨i0,dC,aC⟩:∃i,i<p/\key i=key p:=by
     by_cases hx:∃i,i<p/\key i=key p
     ·exact hx
     ·exact absurd (fun i hi e=>hx ⟨i,hi,e⟩) eA
    have vC:=zB (HK.out.not_nodup dC jE.out aC);have mC:=zGC bA.out dA.out (HK.out.old dC aC pB.out);obtain⟨ev,st,wa,wb,he,tC,kB,aA,lC,mA⟩:=zJd bA.out zQj zHd (by unfold maxLen;omega) zPC dA.out (HK.out.old dC aC pB.out) (val:=.int .i64 2);obtain⟨⟨y0,-⟩,⟨y1,-⟩⟩:=HV.out.zRX ((Below.refl _ _).drew);have z0:=(mA.cell_far _ (zD y0) (fun e=>by have h1:=Option.some.inj e;have h2:=iA.out;simp only at h1;omega)).trans y0;have z1:=(mA.cell_far _ (zD y1) (fun e=>by have h1:=Option.some.inj e;have h2:=iA.out;simp only at h1;omega)).trans y1;have fF:=zGC aA dA.out (HK.out.put p _);have fD:=aB.drew.grown mA (Nat.le_trans aB.size (Nat.le_refl _)) (fun q e=>by cases e;omega);clear aA lC mA eA aB bB dC aC;unfold goInt at he kB;go_region;clear mC tC he kB y0 y1;go_wp2_with fail;go_region;go_wp2;rw[Exit.noGoto_ret];go_ret;exact⟨zG.no fun hx=>vC.out hx.1,fD.drew⟩
theorem zFX(v0 v1 v2 v3:Value)(lo hi:Nat)(W:zH)(w:World)(h:zk w lo hi v0 v1 v2 v3 W)(aB:zCQ W) :
  Calls Tryz.prog 165 #[zz v0 v1 v2 v3 W] w fun e w'=>zG (zAx W) e/\Below w.heap.size w w':=by
 have Hp:=zB h;have iA:=zB aB;clear h aB;have ha:=zC w (.cells #[v0,v1,.int .i64 W.time,.int .i64 W.next,v2,v3] 37);have HB:=zB (zi.zRZ w v0 v1 (.int .i64 W.time) (.int .i64 W.next) v2 v3 37);obtain⟨⟨x0,-⟩,⟨x1,-⟩,⟨x2,-⟩,⟨x3,-⟩,⟨x4,-⟩,⟨x5,-⟩⟩:=HB.out;go_enter Tryz.func165,Tryz.ntmps165;go_wp2_with fail;generalize w.alloc (.cells #[v0,v1,.int .i64 W.time,.int .i64 W.next,v2,v3] 37)=W0 at ha HB x0 x1 x2 x3 x4 x5 ⊢;refine(zEa W.time W0).mono ?_;rintro e w1 ⟨⟨t1,rfl,bA⟩,rfl⟩;have aA:=zB bA;clear bA;cases t1
 ·have Hn:=zB (show ¬zAx W from fun hI=>absurd (aA.out.2 hI.zRo.time) (by simp));clear aA;go_wp2;go_ret;exact⟨zG.no Hn.out,ha⟩
 have H1:=zB (aA.out.1 rfl);clear aA;go_wp2_with fail;refine(zEa W.next _).mono ?_;rintro e w1 ⟨⟨t1,rfl,bA⟩,rfl⟩;have aA:=zB bA;clear bA;cases t1
 ·have Hn:=zB (show ¬zAx W from fun hI=>absurd (aA.out.2 hI.zRo.next) (by simp));clear aA;go_wp2;go_ret;exact⟨zG.no Hn.out,ha⟩
 have H2:=zB (aA.out.1 rfl);clear aA;go_wp2_with fail;refine(zJB v2 W.sn lo hi W.zRg _ (Hp.out.zRX ha).zRg).mono ?_;rintro e w2 ⟨⟨t1,rfl,bA⟩,hc⟩;have aA:=zB bA;have gA:=zA ha hc;have sA:=zB (HB.out.zRX hc);clear bA hc x0 x1 x2 x3 x4 x5;obtain⟨⟨x0,-⟩,⟨x1,-⟩,⟨x2,-⟩,⟨x3,-⟩,⟨x4,-⟩,⟨x5,-⟩⟩:=sA.out;cases t1
 ·have Hn:=zB (show ¬zAx W from fun hI=>absurd (aA.out.2 hI.zRo.zRg) (by simp));clear aA;go_wp2;go_ret;exact⟨zG.no Hn.out,gA⟩
 have H3:=zB (aA.out.1 rfl);clear aA;have hs:=H3.out.1;go_wp2_with fail;refine(zIR v0 v1 v2 v3 lo hi W _ (Hp.out.zRX gA) hs).mono ?_;rintro e w3 ⟨⟨t1,rfl,bA⟩,hc⟩;have aA:=zB bA;have jA:=zA gA hc;have vA:=zB (sA.out.zRX hc);clear bA hc x0 x1 x2 x3 x4 x5;obtain⟨⟨x0,-⟩,⟨x1,-⟩,⟨x2,-⟩,⟨x3,-⟩,⟨x4,-⟩,⟨x5,-⟩⟩:=vA.out;cases t1
 ·have Hn:=zB (show ¬zAx W from fun hI=>absurd (aA.out.2 hI.zRo.zRe) (by simp));clear aA;go_wp2;go_ret;exact⟨zG.no Hn.out,jA⟩
 have H4:=zB (aA.out.1 rfl);clear aA;have hp:=H4.out.1;have HN:=zB (show zDC W from⟨H1.out,H2.out,H3.out,H4.out⟩);go_wp2_with fail;refine(yw v0 v1 lo hi W.zRd _ (Hp.out.zRX jA).zRd).mono ?_;rintro e w4 ⟨⟨t1,rfl,bA⟩,hc⟩;have aA:=zB bA;have cA:=zA jA hc;have oA:=zB (vA.out.zRX hc);clear bA hc x0 x1 x2 x3 x4 x5;obtain⟨⟨x0,-⟩,⟨x1,-⟩,⟨x2,-⟩,⟨x3,-⟩,⟨x4,-⟩,⟨x5,-⟩⟩:=oA.out;cases t1
 ·have Hn:=zB (show ¬zAx W from fun hI=>absurd (aA.out.2 hI.right) (by simp));clear aA;go_wp2;go_ret;exact⟨zG.no Hn.out,cA⟩
 have H5:=zB (aA.out.1 rfl);clear aA;go_wp2_with fail;refine(zG2 v0 v1 v2 v3 lo hi W _ (Hp.out.zRX cA) hp HN.out.idsWf).mono ?_;rintro e w5 ⟨A,rfl,hA,hc⟩;have pA:=zB hA;have nA:=zA cA hc;have kA:=zB (oA.out.zRX hc);clear hA hc x0 x1 x2 x3 x4 x5;obtain⟨⟨x0,-⟩,⟨x1,-⟩,⟨x2,-⟩,⟨x3,-⟩,⟨x4,-⟩,⟨x5,-⟩⟩:=kA.out;go_wp2_with fail;refine(zIM v0 v1 v2 v3 lo hi W A _ (Hp.out.zRX nA) hs hp pA.out HN.out.dist iA.out).mono ?_;rintro e w6 ⟨⟨t1,rfl,bA⟩,hc⟩;have aA:=zB bA;have dA:=zA nA hc;have mA:=zB (kA.out.zRX hc);have rA:=zB (pA.out.zRX hc);clear bA hc x0 x1 x2 x3 x4 x5;obtain⟨⟨x0,-⟩,⟨x1,-⟩,⟨x2,-⟩,⟨x3,-⟩,⟨x4,-⟩,⟨x5,-⟩⟩:=mA.out;cases t1
 ·have Hn:=zB (show ¬zAx W from fun hI=>absurd (aA.out.2 hI.prevs) (by simp));clear aA;go_wp2;go_ret;exact⟨zG.no Hn.out,dA⟩
 have H7:=zB (aA.out.1 rfl);clear aA;go_wp2_with fail;refine(zH7 v0 v1 v2 v3 lo hi W A _ (Hp.out.zRX dA) hp hs rA.out HN.out.dist (HN.out.prevOk H7.out)).mono ?_;rintro e w7 ⟨⟨t1,rfl,bA⟩,hc⟩;have aA:=zB bA;have eA:=zA dA hc;have lA:=zB (mA.out.zRX hc);have tA:=zB (rA.out.zRX hc);clear bA hc x0 x1 x2 x3 x4 x5;obtain⟨⟨x0,-⟩,⟨x1,-⟩,⟨x2,-⟩,⟨x3,-⟩,⟨x4,-⟩,⟨x5,-⟩⟩:=lA.out;cases t1
 ·have Hn:=zB (show ¬zAx W from fun hI=>absurd (aA.out.2 hI.lines) (by simp));clear aA;go_wp2;go_ret;exact⟨zG.no Hn.out,eA⟩
 have H8:=zB (aA.out.1 rfl);clear aA;go_wp2_with fail;refine(zIg v0 v1 v2 v3 lo hi W A _ (Hp.out.zRX eA) hs hp tA.out HN.out.dist iA.out H5.out HN.out.times).mono ?_;rintro e w8 ⟨⟨t1,rfl,bA⟩,hc⟩;have aA:=zB bA;have fA:=zA eA hc;have dB:=zB (lA.out.zRX hc);have cB:=zB (tA.out.zRX hc);clear bA hc x0 x1 x2 x3 x4 x5;obtain⟨⟨x0,-⟩,⟨x1,-⟩,⟨x2,-⟩,⟨x3,-⟩,⟨x4,-⟩,⟨x5,-⟩⟩:=dB.out;cases t1
 ·have Hn:=zB (show ¬zAx W from fun hI=>absurd (aA.out.2 hI.trees) (by simp));clear aA;go_wp2;go_ret;exact⟨zG.no Hn.out,fA⟩
 have H9:=zB (aA.out.1 rfl);clear aA;go_wp2_with fail;refine(zIX v0 v1 v2 v3 lo hi W A _ (Hp.out.zRX fA) hs hp cB.out HN.out.dist iA.out H5.out HN.out.times H9.out.1).mono ?_;rintro e w9 ⟨⟨t1,rfl,bA⟩,hc⟩;have aA:=zB bA;have bB:=zA fA hc;clear bA hc;have Hn:=zB (show t1=true↔zAx W from⟨fun e=>⟨HN.out,H5.out,H7.out,H8.out,H9.out,aA.out.1 e⟩,fun hI=>aA.out.2 hI.homes⟩);clear aA;go_wp2;go_ret;exact⟨⟨t1,rfl,Hn.out⟩,bB⟩
def zNF(w:World)(b:Nat)(v0 v1 v2 v3:Value):Prop:=zW w b 0 v0/\zW w b 1 v1/\zW w b 2 v2/\zW w b 3 v3
theorem zNF.zRX{w w':World}{b:Nat}{v0 v1 v2 v3:Value}(h:zNF w b v0 v1 v2 v3)(t:Below w.heap.size w w'):zNF w' b v0 v1 v2 v3:=⟨h.1.zRX t,h.2.1.zRX t,h.2.2.1.zRX t,h.2.2.2.zRX t⟩
theorem zNF.zRZ(w:World)(v0 v1 v2 v3:Value)(t:TypeId):zNF (w.alloc (.cells #[v0,v1,v2,v3] t)) w.heap.size v0 v1 v2 v3:=by
 have hb:(w.alloc (.cells #[v0,v1,v2,v3] t)).heap[w.heap.size]?=some (.cells #[v0,v1,v2,v3] t):=heap_alloc_new _ _;exact⟨zJ hb rfl,zJ hb rfl,zJ hb rfl,zJ hb rfl⟩
abbrev put4(w:World)(b:Nat)(u0 u1 u2 u3:Value):World:=(((w.setCell ⟨b,0,none⟩ u0).setCell ⟨b,1,none⟩ u1).setCell ⟨b,2,none⟩ u2).setCell ⟨b,3,none⟩ u3
def zDE(w:World)(p:Nat->Addr)(v:Value)(m:Nat)(g:Nat->Nat)(lb:Nat->Array Value)(ei:Nat->Nat):Prop:=
 m<=1000/\∃a c,v = .slice a m c/\(0<m->∃b off,a=some ⟨b,off,none⟩/\∀i,i<m->w.cell? ⟨b,off+i*2,none⟩=some (.func (.func (g i)) #[] (lb i))/\w.cell? ⟨b,off+i*2+1,none⟩=some (qK (p (ei i))))
theorem zDE.zRX{w w':World}{p:Nat->Addr}{v:Value}{m:Nat}{g:Nat->Nat}{lb:Nat->Array Value}{ei:Nat->Nat}(h:zDE w p v m g lb ei)(t:Below w.heap.size w w'):zDE w' p v m g lb ei:=by
 obtain⟨m1,a,c,hv,hx⟩:=h;refine⟨m1,a,c,hv,fun h0=>?_⟩;obtain⟨b,off,ha,hc⟩:=hx h0;exact⟨b,off,ha,fun i hi=>⟨(t.cell (zD (hc i hi).1)).trans (hc i hi).1,(t.cell (zD (hc i hi).2)).trans (hc i hi).2⟩⟩
theorem zDE.cells{w:World}{p:Nat->Addr}{a:Option Addr}{c m:Nat}{g:Nat->Nat}{lb:Nat->Array Value}{ei:Nat->Nat}(h:zDE w p (.slice a m c) m g lb ei){i:Nat}(hi:i<m):∃b off,a=some ⟨b,off,none⟩/\w.cell? ⟨b,off+i*2,none⟩=some (.func (.func (g i)) #[] (lb i))/\w.cell? ⟨b,off+i*2+1,none⟩=some (qK (p (ei i))):=by
 obtain⟨m1,a0,c0,hv,hx⟩:=h;simp only[Value.slice.injEq,true_and]at hv;obtain⟨rfl,rfl⟩:=hv;obtain⟨b,off,ha,hc⟩:=hx (by omega);exact⟨b,off,ha,hc i hi⟩
def zIV(W:zH)(long bad:Prop)(m:Nat)(Q:Nat->Prop)(ei:Nat->Nat)(r:Option Nat):Prop:=
 (long/\r=some 1)\/(¬long/\(¬zAx W\/bad)/\r=some 0)\/(¬long/\zAx W/\¬bad/\∃i,i<m/\¬Q i/\(∀j,j<i->Q j)/\r=some (ei i))\/(¬long/\zAx W/\¬bad/\(∀j,j<m->Q j)/\r=none)
def zQ4(p:Nat->Addr):Option Nat->Value
 | none=>.nilIface
 | some i=>qK (p i)
theorem zL8(p:Nat->Addr)(tv nv qv dv:Value)(nt nn m:Nat)(tx nx:Nat->ByteArray)(g:Nat->Nat)(lb:Nat->Array Value)(ei:Nat->Nat)(Q:Nat->Prop)(v0 v1 v2 v3:Value)(lo hi:Nat)(W:zH)(w:World)(hE:zE3 w p)(h:zk w lo hi v0 v1 v2 v3 W)(mB:zCQ W)
  (ht:zAL w tv nt tx) (hn:zAL w nv nn nx) (hq:zDE w p qv m g lb ei) (eg:∀i,i<m->Enters Tryz.prog (g i))
  (hQ:∀i,i<m->∀w',Below w.heap.size w w'->zAx W->(∀j,j<i->Q j)->Calls Tryz.prog (g i) (#[zz v0 v1 v2 v3 W] ++ lb i) w' fun e eB=>zG (Q i) e/\Below w'.heap.size w' eB) :
  Calls Tryz.prog 105 #[.agg #[tv,nv,qv,dv],zz v0 v1 v2 v3 W] w fun e w'=>∃r,e = .returned (zQ4 p r)/\zIV W (∃i,i<nt/\8000<(tx i).size) (∃i,i<nn/\¬yI (nx i)) m Q ei r/\Below w.heap.size w w':=by
 have Hp:=zd h;have HE:=zd hE;have Ht:=zd ht;have Hn:=zd hn;have Hq:=zd hq;have HQ:=zd hQ;have Hg:=zd eg;obtain⟨t1,ta,tc,rfl,-⟩:=ht;obtain⟨n1,na,nc,rfl,-⟩:=hn;obtain⟨m1,qa,qc,rfl,-⟩:=hq;clear h hE hQ eg;have aB:=zC w (.cells #[.slice ta nt tc,.slice na nn nc,.slice qa m qc,dv] 86);have oA:=zC (w.alloc (.cells #[.slice ta nt tc,.slice na nn nc,.slice qa m qc,dv] 86)) (.cells #[v0,v1,.int .i64 W.time,.int .i64 W.next,v2,v3] 37);have hb:=zA aB oA;have hd:=(zNF.zRZ w (.slice ta nt tc) (.slice na nn nc) (.slice qa m qc) (dv) 86).zRX oA;have hx:=zi.zRZ (w.alloc (.cells #[.slice ta nt tc,.slice na nn nc,.slice qa m qc,dv] 86)) (v0) (v1) (.int .i64 W.time) (.int .i64 W.next) (v2) (v3) 37;rw[World.size_alloc]at hx;have HD:=zd hd;have HX:=zd hx;clear hd hx;obtain⟨⟨d0,-⟩,⟨d1,-⟩,⟨d2,-⟩,⟨d3,-⟩⟩:=HD.out;go_enter Tryz.func105,Tryz.ntmps105;go_wp2_with fail;clear d0 d1 d2 d3;generalize ((w.alloc (.cells #[.slice ta nt tc,.slice na nn nc,.slice qa m qc,dv] 86)).alloc (.cells #[v0,v1,.int .i64 W.time,.int .i64 W.next,v2,v3] 37))=W1 at hb HD HX ⊢;clear aB oA;refine(zNw _ nt tx W1 (Ht.out.zRX hb)).mono ?_;rintro e w2 ⟨⟨t,rfl,aA⟩,kA⟩;have cA:=zA hb kA;have vA:=zd (HD.out.zRX kA);have mA:=zd (HX.out.zRX kA);clear kA hb HD HX;by_cases hl:∃i,i<nt/\8000<(tx i).size
 ·obtain rfl:t=true:=aA.2 hl;have HL:=zd hl;have bB:w2.cell? ⟨3,0,none⟩=some (qK (p 1)):=(HE.out.zRX cA).cell 1 (by omega);clear aA hl;go_wp2;go_ret;exact⟨some 1,rfl,Or.inl ⟨HL.out,rfl⟩,cA⟩
 obtain rfl:t=false:=zQ aA hl;have HL:=zd hl;clear aA hl;obtain⟨⟨x0,-⟩,⟨x1,-⟩,⟨x2,-⟩,⟨x3,-⟩,⟨x4,-⟩,⟨x5,-⟩⟩:=mA.out;go_wp2_with fail;clear x0 x1 x2 x3 x4 x5;refine(zFX _ _ _ _ lo hi W w2 (Hp.out.zRX cA) mB).mono ?_;rintro e w3 ⟨⟨t,rfl,aA⟩,lA⟩;have eA:=zA cA lA;have sA:=zd (vA.out.zRX lA);have tA:=zd (mA.out.zRX lA);clear lA cA vA mA;by_cases hw:zAx W;rotate_left
 ·obtain rfl:t=false:=zQ aA hw;have HW:=zd hw;have bB:w3.cell? ⟨4,0,none⟩=some (qK (p 0)):=(HE.out.zRX eA).cell 0 (by omega);clear aA hw;go_wp2;go_ret;exact⟨some 0,rfl,Or.inr (Or.inl ⟨HL.out,Or.inl HW.out,rfl⟩),eA⟩
 obtain rfl:t=true:=aA.2 hw;have HW:=zd hw;clear aA hw;obtain⟨⟨d0,-⟩,⟨d1,-⟩,⟨d2,-⟩,⟨d3,-⟩⟩:=sA.out;go_wp2_with fail;clear d0 d1 d2 d3;refine(zOk _ nn nx w3 (Hn.out.zRX eA)).mono ?_;rintro e w4 ⟨⟨t,rfl,aA⟩,fA⟩;have rA:=zA eA fA;have jB:=zd (sA.out.zRX fA);have dB:=zd (tA.out.zRX fA);clear fA eA sA tA;by_cases hl:∃i,i<nn/\¬yI (nx i)
 ·obtain rfl:t=true:=aA.2 hl;have HN:=zd hl;have bB:w4.cell? ⟨4,0,none⟩=some (qK (p 0)):=(HE.out.zRX rA).cell 0 (by omega);clear aA hl;go_wp2;go_ret;exact⟨some 0,rfl,Or.inr (Or.inl ⟨HL.out,Or.inr HN.out,rfl⟩),rA⟩
 obtain rfl:t=false:=zQ aA hl;have HN:=zd hl;clear aA hl;obtain⟨⟨d0,-⟩,⟨d1,-⟩,⟨d2,-⟩,⟨d3,-⟩⟩:=jB.out;go_wp2;clear d0 d1 d2 d3
 go_loopw [23] (fun i wr=>∃k:Nat,k<=m/\i = .int .i64 k/\(∀j,j<k->Q j)/\zi wr (w.heap.size+1) (v0) (v1) (.int .i64 W.time) (.int .i64 W.next) (v2) (v3)/\Below w.heap.size w wr) (fun i _=>m - (intOf i).toNat)
 case atStart=>exact⟨0,Nat.zero_le _,rfl,fun j hj=>absurd hj (Nat.not_lt_zero _),dB.out,rA⟩
 case round=>
  obtain⟨k,hk,rfl,dA,hX,hb⟩:=hrel;have bA:=zd dA;have iB:=zd hX;clear dA hX;by_cases gA:k<m
  ·have gB:(k:Int)<(m:Int):=(by omega);obtain⟨b,off,rfl,q0,q1⟩:=(Hq.out.zRX hb).cells gA;have pA:=zC wr (.cells #[.func (.func (g k)) #[] (lb k),qK (p (ei k))] 75);have HV:=zd (zc.zRZ wr (.func (.func (g k)) #[] (lb k)) (qK (p (ei k))) 75);have nA:=zd (iB.out.zRX pA);have jA:=zA hb pA;have e0:∀(args:Array Value) (w:World),(callFunc (g k) args).run Tryz.prog w = .ok (.enter (g k) args) w:=Hg.out k gA;have kB:=fun (w:World) (a:Addr)=>run_store Tryz.prog w a (.func (.func (g k)) #[] (lb k)) .plain rfl
   obtain⟨⟨z0,-⟩,⟨z1,-⟩⟩:=HV.out;obtain⟨⟨x0,-⟩,⟨x1,-⟩,⟨x2,-⟩,⟨x3,-⟩,⟨x4,-⟩,⟨x5,-⟩⟩:=nA.out;go_wp2_with fail;clear x0 x1 x2 x3 x4 x5 z0 z1 q0 q1 kB;generalize wr.alloc (.cells #[.func (.func (g k)) #[] (lb k),qK (p (ei k))] 75)=W5 at HV nA jA ⊢;generalize wr.heap.size=V at HV ⊢;refine(HQ.out k gA W5 jA HW.out bA.out).mono ?_;rintro e w6 ⟨⟨t,rfl,aA⟩,iA⟩;have cB:=zA jA iA;have lB:=zd (HV.out.zRX iA);have fB:=zd (nA.out.zRX iA);clear iA jA pA e0;by_cases hf:Q k
   ·obtain rfl:t=true:=aA.2 hf;have HF:=zd hf;clear aA hf;go_wp2;go_roundw
    case rel=>
     refine⟨k+1,by omega,by go_num,fun j hj=>?_,fB.out,cB⟩;by_cases e:j=k
     ·subst e;exact HF.out
     ·exact bA.out j (by omega)
    case measure=>simp[intOf];omega
   ·obtain rfl:t=false:=zQ aA hf;have HF:=zd hf;clear aA hf;obtain⟨⟨z0,-⟩,⟨z1,-⟩⟩:=lB.out;go_wp2;go_ret;exact⟨some (ei k),rfl,Or.inr (Or.inr (Or.inl ⟨HL.out,HW.out,HN.out,k,gA,HF.out,bA.out,rfl⟩)),cB⟩
  ·obtain rfl:k=m:=(by omega);go_wp2;go_ret;exact⟨none,rfl,Or.inr (Or.inr (Or.inr ⟨HL.out,HW.out,HN.out,bA.out,rfl⟩)),hb⟩
def zKo:qD:={name:=⟨#[]⟩,origin:=0,zRh:=0,rs:=0,rb:=0,dn:=0,ds:=fun _=>0,db:=fun _=>0}
structure zAH (w:World) (bs o kb:Nat) (kv:Value) (s:qD):Prop where
 c0:zW w bs o (.string s.name)
 c1:zW w bs (o+1) (.int .i64 s.origin)
 c2:zW w bs (o+2) (.int .i64 s.zRh)
 c3:zW w bs (o+3) (.int .i64 s.rs)
 c4:zW w bs (o+4) (.int .i64 s.rb)
 c5:zW w bs (o+5) kv
 zRl:zm w kb kv s.dn s.ds s.db
 zRn:s.name.size<=maxLen
 zRk:0<s.dn->kb≠bs
theorem zAH.zRf{S:Nat->Prop}{w w':World}{bs o kb:Nat}{kv:Value}{s:qD}(h:zAH w bs o kb kv s)(t:zF S w w')(h1:¬S bs)(h2:0<s.dn->¬S kb):zAH w' bs o kb kv s:=
 ⟨h.c0.zRf t h1,h.c1.zRf t h1,h.c2.zRf t h1,h.c3.zRf t h1,h.c4.zRf t h1,h.c5.zRf t h1,h.zRl.zRf t h2,h.zRn,h.zRk⟩
theorem zAH.zRX{w w':World}{bs o kb:Nat}{kv:Value}{s:qD}(h:zAH w bs o kb kv s)(t:Below w.heap.size w w'):zAH w' bs o kb kv s:=
 h.zRf (zF.zRa (S:=fun _=>False) t) (fun h=>h) (fun _ h=>h)
theorem zAH.cells{w:World}{bs o kb:Nat}{kv:Value}{s:qD}(h:zAH w bs o kb kv s){lo hi:Nat}(hb:0<s.dn->lo<=kb/\kb<hi):zBd w bs o lo hi kv s:=
 ⟨h.c0.1,h.c1.1,h.c2.1,h.c3.1,h.c4.1,h.c5.1,h.zRl.at hb,h.zRn⟩
theorem zAH.deadLt{w:World}{bs o kb:Nat}{kv:Value}{s:qD}(h:zAH w bs o kb kv s)(h0:0<s.dn):kb<w.heap.size:=by
 obtain⟨_,_,_,_,_,h4⟩:=h.zRl;obtain⟨o,_,h5⟩:=h4 h0;exact(h5 0 h0).1.lt
def yJ(w:World)(bs:Nat)(kb:Nat->Nat)(kv:Nat->Value)(v:Value)(n:Nat)(f:Nat->qD):Prop:=
 n<=maxLen/\∃a cap,v = .slice a n cap/\n<=cap/\(0<n->∃off,a=some ⟨bs,off,none⟩/\∀i,i<n->zAH w bs (off+i*6) (kb i) (kv i) (f i))
def zCN(bs:Nat)(kb:Nat->Nat)(n:Nat)(f:Nat->qD)(k:Nat):Prop:=(0<n/\k=bs)\/∃i,i<n/\0<(f i).dn/\k=kb i
def zBO(kb:Nat->Nat)(n:Nat)(f:Nat->qD):Prop:=∀i j,i<n->j<n->i≠j->0<(f i).dn->0<(f j).dn->kb i≠kb j
theorem yJ.lt{w:World}{bs:Nat}{kb:Nat->Nat}{kv:Nat->Value}{v:Value}{n:Nat}{f:Nat->qD}(h:yJ w bs kb kv v n f){k:Nat}(hk:zCN bs kb n f k):k<w.heap.size:=by
 obtain⟨_,a,aA,_,_,hc⟩:=h;rcases hk with⟨h0,rfl⟩ | ⟨i,hi,h0,rfl⟩
 ·obtain⟨off,_,h3⟩:=hc h0;exact(h3 0 h0).c0.lt
 ·obtain⟨off,_,h3⟩:=hc (by omega);exact(h3 i hi).deadLt h0
theorem yJ.zRf{S:Nat->Prop}{w w':World}{bs:Nat}{kb:Nat->Nat}{kv:Nat->Value}{v:Value}{n:Nat}{f:Nat->qD}(h:yJ w bs kb kv v n f)(t:zF S w w')(hs:∀k,zCN bs kb n f k->¬S k):yJ w' bs kb kv v n f:=by
 obtain⟨h0,a,bA,hv,aA,hc⟩:=h;refine⟨h0,a,bA,hv,aA,fun hn=>?_⟩;obtain⟨off,ha,h3⟩:=hc hn;exact⟨off,ha,fun i hi=>(h3 i hi).zRf t (hs _ (Or.inl ⟨hn,rfl⟩)) (fun h=>hs _ (Or.inr ⟨i,hi,h,rfl⟩))⟩
theorem yJ.zRX{w w':World}{bs:Nat}{kb:Nat->Nat}{kv:Nat->Value}{v:Value}{n:Nat}{f:Nat->qD}(h:yJ w bs kb kv v n f)(t:Below w.heap.size w w'):yJ w' bs kb kv v n f:=
 h.zRf (zF.zRa (S:=fun _=>False) t) (fun _ _ h=>h)
theorem yJ.at{w:World}{bs:Nat}{kb:Nat->Nat}{kv:Nat->Value}{v:Value}{n:Nat}{f:Nat->qD}(h:yJ w bs kb kv v n f){lo hi:Nat}(hb:∀k,zCN bs kb n f k->lo<=k/\k<hi):yW w lo hi v n f:=by
 obtain⟨h0,a,bA,hv,aA,hc⟩:=h;refine⟨h0,a,bA,hv,aA,fun hn=>?_⟩;obtain⟨off,ha,h3⟩:=hc hn;have hx:=hb _ (Or.inl ⟨hn,rfl⟩);exact⟨bs,off,ha,hx.1,hx.2,fun i hi=>⟨_,(h3 i hi).cells (fun h=>hb _ (Or.inr ⟨i,hi,h,rfl⟩))⟩⟩
structure zDx (wr:World) (bs n k:Nat) (f:Nat->qD) (kb:Nat->Nat) (kv:Nat->Value):Prop where
 rows:∀j,j<n->zAH wr bs (0+j*6) (kb j) (kv j) (if j<k then f j else zKo)
 zRk:zBO kb k f
 zRm:∀j,j<k->0<(f j).dn->bs<kb j/\kb j<wr.heap.size
theorem zDx.zRX{wr w':World}{bs n k:Nat}{f:Nat->qD}{kb:Nat->Nat}{kv:Nat->Value}(h:zDx wr bs n k f kb kv)(t:Below wr.heap.size wr w'):zDx w' bs n k f kb kv:=
 ⟨fun j hj=>(h.rows j hj).zRX t,h.zRk,fun j hj h0=>by have:=h.zRm j hj h0;have:=t.size;omega⟩
theorem zDx.next{wr w1:World}{bs n k b:Nat}{f:Nat->qD}{kb:Nat->Nat}{kv:Nat->Value}{v:Value}(h:zDx wr bs n k f kb kv)(hk:k<n)(cA:bs<wr.heap.size)(t:Below wr.heap.size wr w1)
  (hp:zm w1 b v (f k).dn (f k).ds (f k).db) (hb:wr.heap.size<=b) (dA:b<w1.heap.size) (hs:(f k).name.size<=maxLen) :
  zDx ((((((w1.setCell ⟨bs,0+k*6,none⟩ (.string (f k).name)).setCell ⟨bs,0+k*6+1,none⟩ (.int .i64 (f k).origin)).setCell ⟨bs,0+k*6+2,none⟩ (.int .i64 (f k).zRh)).setCell ⟨bs,0+k*6+3,none⟩ (.int .i64 (f k).rs)).setCell ⟨bs,0+k*6+4,none⟩ (.int .i64 (f k).rb)).setCell ⟨bs,0+k*6+5,none⟩ v) bs n (k+1) f (fun j=>if j=k then b else kb j) (fun j=>if j=k then v else kv j):=by
 have h':=h.zRX t;refine⟨fun j hj=>?_,fun i j hi hj bA h1 h2=>?_,fun j hj h0=>?_⟩
 ·have aA:=h'.rows j hj;by_cases e:j=k
  ·subst e;simp only[if_true];rw[if_pos (by omega)];refine⟨?_,?_,?_,?_,?_,?_,?_,hs,fun _=>by omega⟩
   ·exact(((((aA.c0.set _).zRY _ (Or.inr (by omega))).zRY _ (Or.inr (by omega))).zRY _ (Or.inr (by omega))).zRY _ (Or.inr (by omega))).zRY _ (Or.inr (by omega))
   ·exact(((((aA.c1.zRY _ (Or.inr (by omega))).set _).zRY _ (Or.inr (by omega))).zRY _ (Or.inr (by omega))).zRY _ (Or.inr (by omega))).zRY _ (Or.inr (by omega))
   ·exact(((((aA.c2.zRY _ (Or.inr (by omega))).zRY _ (Or.inr (by omega))).set _).zRY _ (Or.inr (by omega))).zRY _ (Or.inr (by omega))).zRY _ (Or.inr (by omega))
   ·exact(((((aA.c3.zRY _ (Or.inr (by omega))).zRY _ (Or.inr (by omega))).zRY _ (Or.inr (by omega))).set _).zRY _ (Or.inr (by omega))).zRY _ (Or.inr (by omega))
   ·exact(((((aA.c4.zRY _ (Or.inr (by omega))).zRY _ (Or.inr (by omega))).zRY _ (Or.inr (by omega))).zRY _ (Or.inr (by omega))).set _).zRY _ (Or.inr (by omega))
   ·exact(((((aA.c5.zRY _ (Or.inr (by omega))).zRY _ (Or.inr (by omega))).zRY _ (Or.inr (by omega))).zRY _ (Or.inr (by omega))).zRY _ (Or.inr (by omega))).set _
   ·exact(((((hp.put _ (by omega)).put _ (by omega)).put _ (by omega)).put _ (by omega)).put _ (by omega)).put _ (by omega)
  ·simp only[if_neg e];have es:(if j<k+1 then f j else zKo)=if j<k then f j else zKo:=by
    by_cases e2:j<k
    ·rw[if_pos e2,if_pos (by omega)]
    ·rw[if_neg e2,if_neg (by omega)]
   rw[es];refine⟨?_,?_,?_,?_,?_,?_,?_,aA.zRn,aA.zRk⟩
   ·exact(((((aA.c0.zRY _ (Or.inr (by omega))).zRY _ (Or.inr (by omega))).zRY _ (Or.inr (by omega))).zRY _ (Or.inr (by omega))).zRY _ (Or.inr (by omega))).zRY _ (Or.inr (by omega))
   ·exact(((((aA.c1.zRY _ (Or.inr (by omega))).zRY _ (Or.inr (by omega))).zRY _ (Or.inr (by omega))).zRY _ (Or.inr (by omega))).zRY _ (Or.inr (by omega))).zRY _ (Or.inr (by omega))
   ·exact(((((aA.c2.zRY _ (Or.inr (by omega))).zRY _ (Or.inr (by omega))).zRY _ (Or.inr (by omega))).zRY _ (Or.inr (by omega))).zRY _ (Or.inr (by omega))).zRY _ (Or.inr (by omega))
   ·exact(((((aA.c3.zRY _ (Or.inr (by omega))).zRY _ (Or.inr (by omega))).zRY _ (Or.inr (by omega))).zRY _ (Or.inr (by omega))).zRY _ (Or.inr (by omega))).zRY _ (Or.inr (by omega))
   ·exact(((((aA.c4.zRY _ (Or.inr (by omega))).zRY _ (Or.inr (by omega))).zRY _ (Or.inr (by omega))).zRY _ (Or.inr (by omega))).zRY _ (Or.inr (by omega))).zRY _ (Or.inr (by omega))
   ·exact(((((aA.c5.zRY _ (Or.inr (by omega))).zRY _ (Or.inr (by omega))).zRY _ (Or.inr (by omega))).zRY _ (Or.inr (by omega))).zRY _ (Or.inr (by omega))).zRY _ (Or.inr (by omega))
   ·refine(((((aA.zRl.zRf (zF.put _ _ _ _) ?_).zRf (zF.put _ _ _ _) ?_).zRf (zF.put _ _ _ _) ?_).zRf (zF.put _ _ _ _) ?_).zRf (zF.put _ _ _ _) ?_).zRf (zF.put _ _ _ _) ?_
    all_goals exact fun h0 hx=>aA.zRk h0 hx
 ·show(if i=k then b else kb i)≠(if j=k then b else kb j);by_cases e1:i=k
  ·by_cases e2:j=k
   ·omega
   ·rw[if_pos e1,if_neg e2];have:=h.zRm j (by omega) h2;omega
  ·by_cases e2:j=k
   ·rw[if_neg e1,if_pos e2];have:=h.zRm i (by omega) h1;omega
   ·rw[if_neg e1,if_neg e2];exact h.zRk i j (by omega) (by omega) bA h1 h2
 ·simp only[World.size_setCell];by_cases e:j=k
  ·rw[if_pos e];omega
  ·rw[if_neg e];have:=h'.zRm j (by omega) h0;omega
theorem zIK:(Tryz.prog.info? 67).map (fun i=>(i.zero,i.size,i.bytes))=some (some (.agg #[.string ⟨#[]⟩,.int .i64 0,.int .i64 0,.int .i64 0,.int .i64 0,.slice none 0 0]),6,72):=by kernel_rfl
theorem zMa{w:World}{bs n j:Nat}(hj:j<n)(aA:bs=w.heap.size):zAH (w.alloc (.cells (zA3 #[.string ⟨#[]⟩,.int .i64 0,.int .i64 0,.int .i64 0,.int .i64 0,.slice none 0 0] n) 67)) bs (0+j*6) 0 (.slice none 0 0) zKo:=by
 subst aA;have c0:=qk w #[.string ⟨#[]⟩,.int .i64 0,.int .i64 0,.int .i64 0,.int .i64 0,.slice none 0 0] n j 0 67 hj (by simp);have c1:=qk w #[.string ⟨#[]⟩,.int .i64 0,.int .i64 0,.int .i64 0,.int .i64 0,.slice none 0 0] n j 1 67 hj (by simp);have c2:=qk w #[.string ⟨#[]⟩,.int .i64 0,.int .i64 0,.int .i64 0,.int .i64 0,.slice none 0 0] n j 2 67 hj (by simp);have c3:=qk w #[.string ⟨#[]⟩,.int .i64 0,.int .i64 0,.int .i64 0,.int .i64 0,.slice none 0 0] n j 3 67 hj (by simp);have c4:=qk w #[.string ⟨#[]⟩,.int .i64 0,.int .i64 0,.int .i64 0,.int .i64 0,.slice none 0 0] n j 4 67 hj (by simp);have c5:=qk w #[.string ⟨#[]⟩,.int .i64 0,.int .i64 0,.int .i64 0,.int .i64 0,.slice none 0 0] n j 5 67 hj (by simp);refine⟨?_,?_,?_,?_,?_,?_,⟨Nat.zero_le _,none,0,rfl,Nat.le_refl _,fun h=>absurd h (Nat.lt_irrefl _)⟩,Nat.zero_le _,fun h=>absurd h (Nat.lt_irrefl _)⟩
 ·show zW _ _ _ (.string ⟨#[]⟩);simpa using c0
 ·show zW _ _ _ (.int .i64 0);simpa using c1
 ·show zW _ _ _ (.int .i64 0);simpa using c2
 ·show zW _ _ _ (.int .i64 0);simpa using c3
 ·show zW _ _ _ (.int .i64 0);simpa using c4
 ·show zW _ _ _ (.slice none 0 0);simpa using c5
def zHS:zl:={id:=0,name:=⟨#[]⟩,set:=⟨#[]⟩,zRh:=0,time:=0,rs:=0,rb:=0,dn:=0,ds:=fun _=>0,db:=fun _=>0}
structure zAK (w:World) (bs o kb:Nat) (kv:Value) (s:zl):Prop where
 c0:zW w bs o (.int .i64 s.id)
 c1:zW w bs (o+1) (.string s.name)
 c2:zW w bs (o+2) (.string s.set)
 c3:zW w bs (o+3) (.int .i64 s.zRh)
 c4:zW w bs (o+4) (.int .i64 s.time)
 c5:zW w bs (o+5) (.int .i64 s.rs)
 c6:zW w bs (o+6) (.int .i64 s.rb)
 c7:zW w bs (o+7) kv
 zRl:zm w kb kv s.dn s.ds s.db
 zRn:s.name.size<=maxLen/\s.set.size<=maxLen
 zRk:0<s.dn->kb≠bs
theorem zAK.zRf{S:Nat->Prop}{w w':World}{bs o kb:Nat}{kv:Value}{s:zl}(h:zAK w bs o kb kv s)(t:zF S w w')(h1:¬S bs)(h2:0<s.dn->¬S kb):zAK w' bs o kb kv s:=
 ⟨h.c0.zRf t h1,h.c1.zRf t h1,h.c2.zRf t h1,h.c3.zRf t h1,h.c4.zRf t h1,h.c5.zRf t h1,h.c6.zRf t h1,h.c7.zRf t h1,h.zRl.zRf t h2,h.zRn,h.zRk⟩
theorem zAK.zRX{w w':World}{bs o kb:Nat}{kv:Value}{s:zl}(h:zAK w bs o kb kv s)(t:Below w.heap.size w w'):zAK w' bs o kb kv s:=
 h.zRf (zF.zRa (S:=fun _=>False) t) (fun h=>h) (fun _ h=>h)
theorem zAK.cells{w:World}{bs o kb:Nat}{kv:Value}{s:zl}(h:zAK w bs o kb kv s){lo hi:Nat}(hb:0<s.dn->lo<=kb/\kb<hi):zAo w bs o lo hi kv s:=
 ⟨h.c0.1,h.c1.1,h.c2.1,h.c3.1,h.c4.1,h.c5.1,h.c6.1,h.c7.1,h.zRl.at hb,h.zRn⟩
theorem zAK.deadLt{w:World}{bs o kb:Nat}{kv:Value}{s:zl}(h:zAK w bs o kb kv s)(h0:0<s.dn):kb<w.heap.size:=by
 obtain⟨_,_,_,_,_,h4⟩:=h.zRl;obtain⟨o,_,h5⟩:=h4 h0;exact(h5 0 h0).1.lt
def yT(w:World)(bs:Nat)(kb:Nat->Nat)(kv:Nat->Value)(v:Value)(n:Nat)(f:Nat->zl):Prop:=
 n<=maxLen/\∃a cap,v = .slice a n cap/\n<=cap/\(0<n->∃off,a=some ⟨bs,off,none⟩/\∀i,i<n->zAK w bs (off+i*8) (kb i) (kv i) (f i))
def zCI(bs:Nat)(kb:Nat->Nat)(n:Nat)(f:Nat->zl)(k:Nat):Prop:=(0<n/\k=bs)\/∃i,i<n/\0<(f i).dn/\k=kb i
def zBA(kb:Nat->Nat)(n:Nat)(f:Nat->zl):Prop:=∀i j,i<n->j<n->i≠j->0<(f i).dn->0<(f j).dn->kb i≠kb j
theorem yT.lt{w:World}{bs:Nat}{kb:Nat->Nat}{kv:Nat->Value}{v:Value}{n:Nat}{f:Nat->zl}(h:yT w bs kb kv v n f){k:Nat}(hk:zCI bs kb n f k):k<w.heap.size:=by
 obtain⟨_,a,aA,_,_,hc⟩:=h;rcases hk with⟨h0,rfl⟩ | ⟨i,hi,h0,rfl⟩
 ·obtain⟨off,_,h3⟩:=hc h0;exact(h3 0 h0).c0.lt
 ·obtain⟨off,_,h3⟩:=hc (by omega);exact(h3 i hi).deadLt h0
theorem yT.zRf{S:Nat->Prop}{w w':World}{bs:Nat}{kb:Nat->Nat}{kv:Nat->Value}{v:Value}{n:Nat}{f:Nat->zl}(h:yT w bs kb kv v n f)(t:zF S w w')(hs:∀k,zCI bs kb n f k->¬S k):yT w' bs kb kv v n f:=by
 obtain⟨h0,a,bA,hv,aA,hc⟩:=h;refine⟨h0,a,bA,hv,aA,fun hn=>?_⟩;obtain⟨off,ha,h3⟩:=hc hn;exact⟨off,ha,fun i hi=>(h3 i hi).zRf t (hs _ (Or.inl ⟨hn,rfl⟩)) (fun h=>hs _ (Or.inr ⟨i,hi,h,rfl⟩))⟩
theorem yT.zRX{w w':World}{bs:Nat}{kb:Nat->Nat}{kv:Nat->Value}{v:Value}{n:Nat}{f:Nat->zl}(h:yT w bs kb kv v n f)(t:Below w.heap.size w w'):yT w' bs kb kv v n f:=
 h.zRf (zF.zRa (S:=fun _=>False) t) (fun _ _ h=>h)
theorem yT.at{w:World}{bs:Nat}{kb:Nat->Nat}{kv:Nat->Value}{v:Value}{n:Nat}{f:Nat->zl}(h:yT w bs kb kv v n f){lo hi:Nat}(hb:∀k,zCI bs kb n f k->lo<=k/\k<hi):qu w lo hi v n f:=by
 obtain⟨h0,a,bA,hv,aA,hc⟩:=h;refine⟨h0,a,bA,hv,aA,fun hn=>?_⟩;obtain⟨off,ha,h3⟩:=hc hn;have hx:=hb _ (Or.inl ⟨hn,rfl⟩);exact⟨bs,off,ha,hx.1,hx.2,fun i hi=>⟨_,(h3 i hi).cells (fun h=>hb _ (Or.inr ⟨i,hi,h,rfl⟩))⟩⟩
structure zCm (wr:World) (bs n k:Nat) (f:Nat->zl) (kb:Nat->Nat) (kv:Nat->Value):Prop where
 rows:∀j,j<n->zAK wr bs (0+j*8) (kb j) (kv j) (if j<k then f j else zHS)
 zRk:zBA kb k f
 zRm:∀j,j<k->0<(f j).dn->bs<kb j/\kb j<wr.heap.size
theorem zCm.zRX{wr w':World}{bs n k:Nat}{f:Nat->zl}{kb:Nat->Nat}{kv:Nat->Value}(h:zCm wr bs n k f kb kv)(t:Below wr.heap.size wr w'):zCm w' bs n k f kb kv:=
 ⟨fun j hj=>(h.rows j hj).zRX t,h.zRk,fun j hj h0=>by have:=h.zRm j hj h0;have:=t.size;omega⟩
theorem zCm.next{wr w1:World}{bs n k b:Nat}{f:Nat->zl}{kb:Nat->Nat}{kv:Nat->Value}{v:Value}(h:zCm wr bs n k f kb kv)(hk:k<n)(cA:bs<wr.heap.size)(t:Below wr.heap.size wr w1)
  (hp:zm w1 b v (f k).dn (f k).ds (f k).db) (hb:wr.heap.size<=b) (dA:b<w1.heap.size) (hs:(f k).name.size<=maxLen/\(f k).set.size<=maxLen) :
  zCm ((((((((w1.setCell ⟨bs,0+k*8,none⟩ (.int .i64 (f k).id)).setCell ⟨bs,0+k*8+1,none⟩ (.string (f k).name)).setCell ⟨bs,0+k*8+2,none⟩ (.string (f k).set)).setCell ⟨bs,0+k*8+3,none⟩ (.int .i64 (f k).zRh)).setCell ⟨bs,0+k*8+4,none⟩ (.int .i64 (f k).time)).setCell ⟨bs,0+k*8+5,none⟩ (.int .i64 (f k).rs)).setCell ⟨bs,0+k*8+6,none⟩ (.int .i64 (f k).rb)).setCell ⟨bs,0+k*8+7,none⟩ v) bs n (k+1) f (fun j=>if j=k then b else kb j) (fun j=>if j=k then v else kv j):=by
 have h':=h.zRX t;refine⟨fun j hj=>?_,fun i j hi hj bA h1 h2=>?_,fun j hj h0=>?_⟩
 ·have aA:=h'.rows j hj;by_cases e:j=k
  ·subst e;simp only[if_true];rw[if_pos (by omega)];refine⟨?_,?_,?_,?_,?_,?_,?_,?_,?_,hs,fun _=>by omega⟩
   ·exact(((((((aA.c0.set _).zRY _ (Or.inr (by omega))).zRY _ (Or.inr (by omega))).zRY _ (Or.inr (by omega))).zRY _ (Or.inr (by omega))).zRY _ (Or.inr (by omega))).zRY _ (Or.inr (by omega))).zRY _ (Or.inr (by omega))
   ·exact(((((((aA.c1.zRY _ (Or.inr (by omega))).set _).zRY _ (Or.inr (by omega))).zRY _ (Or.inr (by omega))).zRY _ (Or.inr (by omega))).zRY _ (Or.inr (by omega))).zRY _ (Or.inr (by omega))).zRY _ (Or.inr (by omega))
   ·exact(((((((aA.c2.zRY _ (Or.inr (by omega))).zRY _ (Or.inr (by omega))).set _).zRY _ (Or.inr (by omega))).zRY _ (Or.inr (by omega))).zRY _ (Or.inr (by omega))).zRY _ (Or.inr (by omega))).zRY _ (Or.inr (by omega))
   ·exact(((((((aA.c3.zRY _ (Or.inr (by omega))).zRY _ (Or.inr (by omega))).zRY _ (Or.inr (by omega))).set _).zRY _ (Or.inr (by omega))).zRY _ (Or.inr (by omega))).zRY _ (Or.inr (by omega))).zRY _ (Or.inr (by omega))
   ·exact(((((((aA.c4.zRY _ (Or.inr (by omega))).zRY _ (Or.inr (by omega))).zRY _ (Or.inr (by omega))).zRY _ (Or.inr (by omega))).set _).zRY _ (Or.inr (by omega))).zRY _ (Or.inr (by omega))).zRY _ (Or.inr (by omega))
   ·exact(((((((aA.c5.zRY _ (Or.inr (by omega))).zRY _ (Or.inr (by omega))).zRY _ (Or.inr (by omega))).zRY _ (Or.inr (by omega))).zRY _ (Or.inr (by omega))).set _).zRY _ (Or.inr (by omega))).zRY _ (Or.inr (by omega))
   ·exact(((((((aA.c6.zRY _ (Or.inr (by omega))).zRY _ (Or.inr (by omega))).zRY _ (Or.inr (by omega))).zRY _ (Or.inr (by omega))).zRY _ (Or.inr (by omega))).zRY _ (Or.inr (by omega))).set _).zRY _ (Or.inr (by omega))
   ·exact(((((((aA.c7.zRY _ (Or.inr (by omega))).zRY _ (Or.inr (by omega))).zRY _ (Or.inr (by omega))).zRY _ (Or.inr (by omega))).zRY _ (Or.inr (by omega))).zRY _ (Or.inr (by omega))).zRY _ (Or.inr (by omega))).set _
   ·exact(((((((hp.put _ (by omega)).put _ (by omega)).put _ (by omega)).put _ (by omega)).put _ (by omega)).put _ (by omega)).put _ (by omega)).put _ (by omega)
  ·simp only[if_neg e];have es:(if j<k+1 then f j else zHS)=if j<k then f j else zHS:=by
    by_cases e2:j<k
    ·rw[if_pos e2,if_pos (by omega)]
    ·rw[if_neg e2,if_neg (by omega)]
   rw[es];refine⟨?_,?_,?_,?_,?_,?_,?_,?_,?_,aA.zRn,aA.zRk⟩
   ·exact(((((((aA.c0.zRY _ (Or.inr (by omega))).zRY _ (Or.inr (by omega))).zRY _ (Or.inr (by omega))).zRY _ (Or.inr (by omega))).zRY _ (Or.inr (by omega))).zRY _ (Or.inr (by omega))).zRY _ (Or.inr (by omega))).zRY _ (Or.inr (by omega))
   ·exact(((((((aA.c1.zRY _ (Or.inr (by omega))).zRY _ (Or.inr (by omega))).zRY _ (Or.inr (by omega))).zRY _ (Or.inr (by omega))).zRY _ (Or.inr (by omega))).zRY _ (Or.inr (by omega))).zRY _ (Or.inr (by omega))).zRY _ (Or.inr (by omega))
   ·exact(((((((aA.c2.zRY _ (Or.inr (by omega))).zRY _ (Or.inr (by omega))).zRY _ (Or.inr (by omega))).zRY _ (Or.inr (by omega))).zRY _ (Or.inr (by omega))).zRY _ (Or.inr (by omega))).zRY _ (Or.inr (by omega))).zRY _ (Or.inr (by omega))
   ·exact(((((((aA.c3.zRY _ (Or.inr (by omega))).zRY _ (Or.inr (by omega))).zRY _ (Or.inr (by omega))).zRY _ (Or.inr (by omega))).zRY _ (Or.inr (by omega))).zRY _ (Or.inr (by omega))).zRY _ (Or.inr (by omega))).zRY _ (Or.inr (by omega))
   ·exact(((((((aA.c4.zRY _ (Or.inr (by omega))).zRY _ (Or.inr (by omega))).zRY _ (Or.inr (by omega))).zRY _ (Or.inr (by omega))).zRY _ (Or.inr (by omega))).zRY _ (Or.inr (by omega))).zRY _ (Or.inr (by omega))).zRY _ (Or.inr (by omega))
   ·exact(((((((aA.c5.zRY _ (Or.inr (by omega))).zRY _ (Or.inr (by omega))).zRY _ (Or.inr (by omega))).zRY _ (Or.inr (by omega))).zRY _ (Or.inr (by omega))).zRY _ (Or.inr (by omega))).zRY _ (Or.inr (by omega))).zRY _ (Or.inr (by omega))
   ·exact(((((((aA.c6.zRY _ (Or.inr (by omega))).zRY _ (Or.inr (by omega))).zRY _ (Or.inr (by omega))).zRY _ (Or.inr (by omega))).zRY _ (Or.inr (by omega))).zRY _ (Or.inr (by omega))).zRY _ (Or.inr (by omega))).zRY _ (Or.inr (by omega))
   ·exact(((((((aA.c7.zRY _ (Or.inr (by omega))).zRY _ (Or.inr (by omega))).zRY _ (Or.inr (by omega))).zRY _ (Or.inr (by omega))).zRY _ (Or.inr (by omega))).zRY _ (Or.inr (by omega))).zRY _ (Or.inr (by omega))).zRY _ (Or.inr (by omega))
   ·refine(((((((aA.zRl.zRf (zF.put _ _ _ _) ?_).zRf (zF.put _ _ _ _) ?_).zRf (zF.put _ _ _ _) ?_).zRf (zF.put _ _ _ _) ?_).zRf (zF.put _ _ _ _) ?_).zRf (zF.put _ _ _ _) ?_).zRf (zF.put _ _ _ _) ?_).zRf (zF.put _ _ _ _) ?_
    all_goals exact fun h0 hx=>aA.zRk h0 hx
 ·show(if i=k then b else kb i)≠(if j=k then b else kb j);by_cases e1:i=k
  ·by_cases e2:j=k
   ·omega
   ·rw[if_pos e1,if_neg e2];have:=h.zRm j (by omega) h2;omega
  ·by_cases e2:j=k
   ·rw[if_neg e1,if_pos e2];have:=h.zRm i (by omega) h1;omega
   ·rw[if_neg e1,if_neg e2];exact h.zRk i j (by omega) (by omega) bA h1 h2
 ·simp only[World.size_setCell];by_cases e:j=k
  ·rw[if_pos e];omega
  ·rw[if_neg e];have:=h'.zRm j (by omega) h0;omega
theorem zGt:(Tryz.prog.info? 99).map (fun i=>(i.zero,i.size,i.bytes))=some (some (.agg #[.int .i64 0,.string ⟨#[]⟩,.string ⟨#[]⟩,.int .i64 0,.int .i64 0,.int .i64 0,.int .i64 0,.slice none 0 0]),8,96):=by kernel_rfl
theorem zLj{w:World}{bs n j:Nat}(hj:j<n)(aA:bs=w.heap.size):zAK (w.alloc (.cells (zA3 #[.int .i64 0,.string ⟨#[]⟩,.string ⟨#[]⟩,.int .i64 0,.int .i64 0,.int .i64 0,.int .i64 0,.slice none 0 0] n) 99)) bs (0+j*8) 0 (.slice none 0 0) zHS:=by
 subst aA;have c0:=qk w #[.int .i64 0,.string ⟨#[]⟩,.string ⟨#[]⟩,.int .i64 0,.int .i64 0,.int .i64 0,.int .i64 0,.slice none 0 0] n j 0 99 hj (by simp);have c1:=qk w #[.int .i64 0,.string ⟨#[]⟩,.string ⟨#[]⟩,.int .i64 0,.int .i64 0,.int .i64 0,.int .i64 0,.slice none 0 0] n j 1 99 hj (by simp);have c2:=qk w #[.int .i64 0,.string ⟨#[]⟩,.string ⟨#[]⟩,.int .i64 0,.int .i64 0,.int .i64 0,.int .i64 0,.slice none 0 0] n j 2 99 hj (by simp);have c3:=qk w #[.int .i64 0,.string ⟨#[]⟩,.string ⟨#[]⟩,.int .i64 0,.int .i64 0,.int .i64 0,.int .i64 0,.slice none 0 0] n j 3 99 hj (by simp);have c4:=qk w #[.int .i64 0,.string ⟨#[]⟩,.string ⟨#[]⟩,.int .i64 0,.int .i64 0,.int .i64 0,.int .i64 0,.slice none 0 0] n j 4 99 hj (by simp);have c5:=qk w #[.int .i64 0,.string ⟨#[]⟩,.string ⟨#[]⟩,.int .i64 0,.int .i64 0,.int .i64 0,.int .i64 0,.slice none 0 0] n j 5 99 hj (by simp);have c6:=qk w #[.int .i64 0,.string ⟨#[]⟩,.string ⟨#[]⟩,.int .i64 0,.int .i64 0,.int .i64 0,.int .i64 0,.slice none 0 0] n j 6 99 hj (by simp);have c7:=qk w #[.int .i64 0,.string ⟨#[]⟩,.string ⟨#[]⟩,.int .i64 0,.int .i64 0,.int .i64 0,.int .i64 0,.slice none 0 0] n j 7 99 hj (by simp);refine⟨?_,?_,?_,?_,?_,?_,?_,?_,⟨Nat.zero_le _,none,0,rfl,Nat.le_refl _,fun h=>absurd h (Nat.lt_irrefl _)⟩,⟨Nat.zero_le _,Nat.zero_le _⟩,fun h=>absurd h (Nat.lt_irrefl _)⟩
 ·show zW _ _ _ (.int .i64 0);simpa using c0
 ·show zW _ _ _ (.string ⟨#[]⟩);simpa using c1
 ·show zW _ _ _ (.string ⟨#[]⟩);simpa using c2
 ·show zW _ _ _ (.int .i64 0);simpa using c3
 ·show zW _ _ _ (.int .i64 0);simpa using c4
 ·show zW _ _ _ (.int .i64 0);simpa using c5
 ·show zW _ _ _ (.int .i64 0);simpa using c6
 ·show zW _ _ _ (.slice none 0 0);simpa using c7
def qW(w:World)(S:Nat->Prop)(v0 v1:Value)(p:zI):Prop:=
 ∃(bs hb:Nat) (kb:Nat->Nat) (kv:Nat->Value),qT w bs kb kv v0 p.n p.s/\yP kb p.n p.s/\qf w hb v1 p.hn p.h/\(0<p.hn->¬ym bs kb p.n p.s hb)/\
  ∀k,ym bs kb p.n p.s k\/(0<p.hn/\k=hb)->S k
theorem zy.isIn{w:World}{lo hi:Nat}{S:Nat->Prop}{v0 v1:Value}{p:zI}(h:zy w lo hi v0 v1 p)(hS:∀k,lo<=k->k<hi->S k):qW w S v0 v1 p:=by
 obtain⟨bs,hb,kb,kv,h1,h2,h3,h4,h5⟩:=h;exact⟨bs,hb,kb,kv,h1,h2,h3,h4,fun k hk=>hS k (h5 k hk).1 (h5 k hk).2⟩
theorem qW.own{w:World}{lo hi:Nat}{S:Nat->Prop}{v0 v1:Value}{p:zI}(h:qW w S v0 v1 p)(hS:∀k,S k->lo<=k/\k<hi):zy w lo hi v0 v1 p:=by
 obtain⟨bs,hb,kb,kv,h1,h2,h3,h4,h5⟩:=h;exact⟨bs,hb,kb,kv,h1,h2,h3,h4,fun k hk=>hS k (h5 k hk)⟩
theorem qW.mono{w:World}{S T:Nat->Prop}{v0 v1:Value}{p:zI}(h:qW w S v0 v1 p)(hS:∀k,S k->T k):qW w T v0 v1 p:=by
 obtain⟨bs,hb,kb,kv,h1,h2,h3,h4,h5⟩:=h;exact⟨bs,hb,kb,kv,h1,h2,h3,h4,fun k hk=>hS k (h5 k hk)⟩
theorem qW.zRX{w w':World}{S:Nat->Prop}{v0 v1:Value}{p:zI}(h:qW w S v0 v1 p)(t:Below w.heap.size w w'):qW w' S v0 v1 p:=by
 obtain⟨bs,hb,kb,kv,h1,h2,h3,h4,h5⟩:=h;exact⟨bs,hb,kb,kv,h1.zRX t,h2,h3.zRX t,h4,h5⟩
theorem qW.zRf{S T:Nat->Prop}{w w':World}{v0 v1:Value}{p:zI}(h:qW w S v0 v1 p)(t:zF T w w')(hs:∀k,S k->¬T k):qW w' S v0 v1 p:=by
 obtain⟨bs,hb,kb,kv,h1,h2,h3,h4,h5⟩:=h;have out:∀k,ym bs kb p.n p.s k\/(0<p.hn/\k=hb)->¬T k:=fun k hk=>hs k (h5 k hk)
 exact⟨bs,hb,kb,kv,h1.zRf t (fun h0=>out _ (Or.inl (Or.inl ⟨h0,rfl⟩))) (fun i hi h=>out _ (Or.inl (Or.inr ⟨i,hi,h,rfl⟩))),h2,h3.zRf t (fun h0=>out _ (Or.inr ⟨h0,rfl⟩)),h4,h5⟩
theorem qW.at{w:World}{S:Nat->Prop}{lo hi:Nat}{v0 v1:Value}{p:zI}(h:qW w S v0 v1 p)(hS:∀k,S k->lo<=k/\k<hi):zu w lo hi v0 v1 p:=(h.own hS).at
end Go.Proofs.YtmgeglgboadfiaaGreatDoor
