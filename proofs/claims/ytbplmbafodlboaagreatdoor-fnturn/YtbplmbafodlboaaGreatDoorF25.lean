/- A part of the proof. -/
import Derived.Test.YtbplmbafodlboaaGreatDoorF24
import Derived.Shelf.Abstract
set_option linter.unusedVariables false
set_option maxRecDepth 20000
set_option maxHeartbeats 4000000
namespace Go.Proofs.YtbplmbafodlboaaGreatDoor
open Go.RowKit Go.Maps
theorem zDp{P:Program}{k:TypeId}{w w1:World}{M n g o:Nat}{D:DataW Value}{v:Value}(hg:w.grownBy w1 (some M))(hm:w.ownsMap P k zEZ M n D)(h:w.cell? ⟨g,o,none⟩=some v):w1.cell? ⟨g,o,none⟩=some v:=by
 refine(hg.cell_far ⟨g,o,none⟩ (zH h) ?_).trans h;intro e;simp only[Option.some.injEq]at e;subst e;obtain⟨es,aA,hb,-⟩:=hm;simp[World.cell?,hb]at h
theorem zDr{w w1 w2:World}{row:Option Nat}(h:w.grownBy w1 row)(k:w1.grownBy w2 row):w.grownBy w2 row:=
 ⟨k.os.trans h.os,k.tape.trans h.tape,k.output.trans h.output,Nat.le_trans h.size k.size,fun i hi aA=>(k.block i (Nat.lt_of_lt_of_le hi h.size) aA).trans (h.block i hi aA)⟩
theorem zID.side{P:Program}{kt:TypeId}{w w1:World}{M n lo hi:Nat}{D:DataW Value}{v:Value}{W:zC}{vd:Nat->Value}(h:zID w lo hi v W vd)(hg:w.grownBy w1 (some M))(hm:w.ownsMap P kt zEZ M n D)(i:Nat)(aA:i<zt W) :
  ∃g c,v = .slice (some ⟨g,0,none⟩) (zt W) c/\w1.cell? ⟨g,i*5,none⟩=some (.int .i64 (zL W i).zcD)/\w1.cell? ⟨g,i*5+1,none⟩=some (.int .i64 (zL W i).time)/\w1.cell? ⟨g,i*5+2,none⟩=some (.int .i64 (zL W i).rs)/\w1.cell? ⟨g,i*5+3,none⟩=some (.int .i64 (zL W i).rb)/\w1.cell? ⟨g,i*5+4,none⟩=some (vd i):=by
 obtain⟨g,c,e,h0,h1,h2,h3,h4⟩:=h.cells i aA;exact⟨g,c,e,zDp hg hm h0,zDp hg hm h1,zDp hg hm h2,zDp hg hm h3,zDp hg hm h4⟩
theorem zAC.side{w w1:World}{M b:Nat}{a0 a1 a2 a3 a4 a5:Value}(h:zAC w b a0 a1 a2 a3 a4 a5)(hg:w.grownBy w1 (some M))(aA:b≠M):zAC w1 b a0 a1 a2 a3 a4 a5:=by
 obtain⟨h0,h1,h2,h3,h4,h5⟩:=h;have hc:∀{o:Nat} {v:Value},zg w b o v->zg w1 b o v:=fun hc=>⟨(hg.cell_far _ (zH hc.1) (fun e=>aA (Option.some.inj e))).trans hc.1,(hg.frozen_far _ (zH hc.1) (fun e=>aA (Option.some.inj e))).trans hc.2⟩
 exact⟨hc h0,hc h1,hc h2,hc h3,hc h4,hc h5⟩
theorem zSC(v:Value)(s:zu)(w:World):(Instr.field 75 (zDk v s) 4).run Tryz.prog w = .ok (.int .i64 s.time) w:=by kernel_rfl
theorem zZu:Go.WideMaps.KeyLaw Tryz.prog 70:=deep_law_laid zWm (m:=5) (by decide) (zWo (by kernel_rfl)) (by kernel_rfl) (by kernel_rfl)
theorem zMC:Tryz.prog.underlying 196=some (.map 70 2):=by kernel_rfl
theorem zYQ(w:World):(zeroValue 2).run Tryz.prog w = .ok (.int .i64 0) w:=by kernel_rfl
theorem zNL{n:Int}(h0:-9223372036854775808<=n)(h1:n<9223372036854775808):IntKind.i64.wrap n=n:=by
 unfold IntKind.wrap;simp only[IntKind.signed,IntKind.bits,Bool.true_and];split
 ·rename_i hc
  have aA:=of_decide_eq_true hc;omega
 ·rename_i hc
  have aA:=of_decide_eq_false (Bool.eq_false_iff.2 hc);omega
theorem zSJ{N n r h:Nat}(hr:r<=n)(hn:n<=200)(hh:h<=9223372036854775807):((N:Int) == IntKind.i64.wrap (IntKind.i64.wrap ((n:Int) - (r:Int)) - (h:Int)))=true↔N+r+h=n:=by
 have e1:IntKind.i64.wrap ((n:Int) - (r:Int))=(n:Int) - (r:Int):=zNL (by omega) (by omega);rw[e1];have e2:IntKind.i64.wrap ((n:Int) - (r:Int) - (h:Int))=(n:Int) - (r:Int) - (h:Int):=zNL (by omega) (by omega);rw[e2,beq_iff_eq];omega
theorem zJD{w:World}{b n:Nat}{D:DataW Value}{ky v:Value}{kl:Lit}(h:w.ownsMap Tryz.prog 70 zEZ b n D)(aA:keyOf Tryz.prog 70 ky=some kl)(cA:D.atKey kl (.held (.int .i64 0)) = .held v):(Instr.lookup 196 (.map (some b)) ky false).run Tryz.prog w = .ok v w:=by
 obtain⟨v',ps,bA,hv⟩:=h.lookup zap zMC (zYQ w) (zD7 _) aA;have e1:=zHJ hv;rw[cA]at e1;obtain rfl:=DataW.held.inj e1;exact bA
theorem zMB(v0 v1 v2 v3:Value)(lo hi:Nat)(W:zC)(A:Nat)(w:World)(h:yQ w lo hi v0 v1 v2 v3 W)(hs:W.sn<=8)(hp:W.pn<=20)(hA:zDQ w lo hi W A)(hD:zFC W)(cE:zB1 W)(hR:zz W.pool)(hT:zOz W)(tC:∀i,i<zt W->qd W.pool (zL W i).rs (zL W i).rb) :
  Calls Tryz.prog 121 #[zBb v0 v1 v2 v3 W,zJr A] w fun e w'=>zK (zIs W) e/\Below w.heap.size w w':=by
 obtain⟨key,hK⟩:=zUx hR tC;have HK:=zB hK;have Hp:=zB h;have HA:=zB hA;have HD:=zB hD;have oE:=zB cE;have HR:=zB hR;have gE:=zB hT;have iE:=zB tC;clear h hA hD cE hR hT tC hK;have ha:=zD w (.cells #[v0,v1,.int .i64 W.time,.int .i64 W.next,v2,v3] 30);have HB:=zB (zAC.new w v0 v1 (.int .i64 W.time) (.int .i64 W.next) v2 v3 30);have iD:(w.alloc (.cells #[v0,v1,.int .i64 W.time,.int .i64 W.next,v2,v3] 30)).heap.size=w.heap.size+1:=World.size_alloc _ _;have hm:=World.ownsMap_made (w.alloc (.cells #[v0,v1,.int .i64 W.time,.int .i64 W.next,v2,v3] 30)) Tryz.prog 70 zEZ;rw[iD]at hm;have HM:=zB hm;have rB:=zB (HB.out.zb7 (zD _ (.map #[] 0)));have sB:=zB (zA ha (zD _ (.map #[] 0)));have pF:=@run_makeMap Tryz.prog;obtain⟨x0,x2,x4,x6,x8,iF⟩:=rB.out.c;clear hm;go_enter Tryz.func121,Tryz.ntmps121;go_wp2_with fail;go_step3;go_wp2_with fail;go_step3;go_wp2_with fail;clear x0 x2 x4 x6 x8 iF ha HB;have sC:=zB (show((w.alloc (.cells #[v0,v1,.int .i64 W.time,.int .i64 W.next,v2,v3] 30)).alloc (.map #[] 0)).heap.size=w.heap.size+2 by rw[World.size_alloc,iD]);clear iD;generalize (w.alloc (.cells #[v0,v1,.int .i64 W.time,.int .i64 W.next,v2,v3] 30)).alloc (.map #[] 0)=W0 at HM rB sB sC ⊢;refine(zFZ v0 v1 v2 v3 lo hi W W0 (Hp.out.zb7 sB.out) hs hp).mono ?_;rintro e w1 ⟨vm,vd,rfl,hm,jB⟩;have kD:=zB hm;have lD:=zB (rB.out.zb7 jB);have jD:=zB (HM.out.kept (zCo jB none) (by simp));have sE:=zA sB.out jB;have hz:w.heap.size+2<=w1.heap.size:=by have h1:=jB.size;have h2:=sC.out;omega
 obtain⟨am,cm,rfl,mF⟩:=id hm.zcF;have rF:zt W<=28:=by unfold zt;omega
 clear jB hm rB sB HM sC;go_wp2
 go_loopw [6,15] (fun s i wr=>∃k:Nat,k<=zt W/\s = .bool true/\i = .int .i64 k/\wr.ownsMap Tryz.prog 70 zEZ (w.heap.size+1) (zq W k).length (zOA key (zq W k).length)/\zIq (zq W k).length key/\w1.grownBy wr (some (w.heap.size+1))/\Below w.heap.size w wr) (fun _ i _=>zt W - (intOf i).toNat)
 case atStart=>exact⟨0,Nat.zero_le _,rfl,rfl,jD.out,fun i hi=>absurd hi (Nat.not_lt_zero _),World.grownBy.refl _ _,sE⟩
 case round=>
  obtain⟨k,hk,rfl,rfl,lA,tA,lB,hb⟩:=hrel;have bA:=zB lA;have gA:=zB tA;have fA:=zB lB;clear lA tA lB;by_cases nB:k<zt W;rotate_left
  ·obtain rfl:k=zt W:=(by omega);obtain⟨⟨m0,a0,c0,rfl,bG,-⟩,⟨m1,a1,c1,rfl,cG,-⟩⟩:=id Hp.out.pool;have gD:=HK.out.size gA.out;have tD:=(bA.out.kept (zCo ((Below.refl _ _).drew) none) (by simp)).len zMC 3;rw[gD]at tD;have nE:=zB gD;clear gD;have vA:=zJZ W.pool.s W.pool.n;have iB:=HR.out.1;unfold maxLen at m0 m1;have mA:=zB (lD.out.side fA.out (by omega));obtain⟨x0,x1,x2,x3,x4,x5⟩:=mA.out.c;have eE:=zB (HK.out.dist.1 gA.out);have fF:zUM W.pool=(roomN W.pool.s W.pool.n:Int):=if_pos HR.out;generalize hN:(zq W (zt W)).length=N at *;have HN:=zB hN;clear hN;go_wp2_with fail;go_region_held3 (fun w'=>w'.cell? ⟨w.heap.size,0,none⟩=some (.slice a0 W.pool.n c0)/\w'.cell? ⟨w.heap.size,1,none⟩=some (.slice a1 W.pool.hn c1)/\(Builtin.len_ #[196] 3 #[.map (some (w.heap.size+1))]).run Tryz.prog w' = .ok (.int .i64 (N:Nat)) w') (go_keep)
    (first
     | (go_at_call 151;refine(zJw _ _ lo hi W.pool _ ((Hp.out.zb7 hb).pool.zb7 (Below.refl _ _).drew)).mono ?_;rintro e w5 ⟨rfl,bC⟩;have rA:=qY bC;obtain⟨⟨k0,_⟩,⟨k1,_⟩,_⟩:=mA.out.zb7 rA;have sD:=(bA.out.kept (zCo rA none) (by simp)).len zMC 3;rw[nE.out]at sD))
   have oB:=zSJ (N:=N) vA iB (by omega:W.pool.hn<=9223372036854775807);have oC:=zB oB;have tE:=zA hb rA;clear oB tD sD fF vA iB;go_wp2
   try rw[Exit.noGoto_ret]
   go_ret;refine⟨⟨_,rfl,?_⟩,tE⟩;rw[oC.out];unfold zIs;rw[HN.out];exact⟨fun hx=>⟨eE.out,hx⟩,fun hx=>hx.2⟩
  have dF:(k:Int)<(zt W:Int):=(by omega);obtain⟨g,cg,e,q0,q1,q2,q3,q4⟩:=kD.out.side fA.out jD.out k nB;obtain⟨-,ad,cd,bE,-,-⟩:=id (kD.out.dead k nB);rw[bE]at q4;cases e;have nA:=zD wr (.cells #[.int .i64 (zL W k).zcD,.int .i64 (zL W k).time,.int .i64 (zL W k).rs,.int .i64 (zL W k).rb,.slice ad (zL W k).dn cd] 193);have HV:=zB (zGm.new wr (.int .i64 (zL W k).zcD) (.int .i64 (zL W k).time) (.int .i64 (zL W k).rs) (.int .i64 (zL W k).rb) (.slice ad (zL W k).dn cd) 193);have mA:=zB ((lD.out.side fA.out (by omega)).zb7 nA);have aC:=zA hb nA;have iA:=zB (bA.out.kept (zCo nA none) (by simp));have pA:=zB (zDr fA.out (zCo nA (some (w.heap.size+1))));have fC:=zB (HA.out.zb7 aC);have nC:=zB (Hp.out.zb7 aC);have pE:=zB (oE.out k nB);have jC:=zB (iE.out k nB);have pC:=zB (gE.out (zL W k).zcD);have rC:=zB (show zBK W (zL W k)=zCV (zN W.pool (zL W k).rs (zL W k).rb) (zI W (zL W k).zcD).time from rfl);have fB:=zB (show(zq W (k+1)).length=(zq W k).length+(zBK W (zL W k)).length from List.length_append);have jE:=zB (fun (j:Nat) (hj:j<(zBK W (zL W k)).length)=>zWS W (k:=k) (n:=zt W) nB hj);have rE:=zB (zNO W (zL W k));have lE:=zB (zOC W k);clear bE nA fA bA;generalize zL W k=mk at *;go_wp2_with fail;clear q0 q1 q2 q3 q4;have aB:=zB (show w.heap.size+2<=(wr.alloc (.cells #[.int .i64 mk.zcD,.int .i64 mk.time,.int .i64 mk.rs,.int .i64 mk.rb,.slice ad mk.dn cd] 193)).heap.size from Nat.le_trans hz pA.out.size);generalize wr.alloc (.cells #[.int .i64 mk.zcD,.int .i64 mk.time,.int .i64 mk.rs,.int .i64 mk.rb,.slice ad mk.dn cd] 193)=W2 at HV mA fC nC aC iA pA aB ⊢;generalize wr.heap.size=V at HV ⊢;obtain⟨⟨y0,-⟩,⟨y1,-⟩,⟨y2,-⟩,⟨y3,-⟩,⟨y4,-⟩⟩:=HV.out;obtain⟨x0,x1,x2,x3,x4,x5⟩:=mA.out.c;have gF:=yR W.pool mk.rs mk.rb;have iC:=zB (show zAF (zN W.pool mk.rs mk.rb).length (zx (zN W.pool mk.rs mk.rb)) (qS (zN W.pool mk.rs mk.rb))from zDO HR.out (fun x hx=>(zCZ HR.out jC.out hx).1) (zCw HR.out jC.out) (by omega));have vE:=zGJ;have aF:=zSC;generalize nD:zI W mk.zcD=S at pC rC ⊢;have dE:=zB nD;clear nD;generalize oD:zN W.pool mk.rs mk.rb=tree at iC gF rC ⊢;have fE:=zB oD;clear oD;go_region_held3 (fun w'=>w'.cell? ⟨w.heap.size,0,none⟩=some v0/\w'.cell? ⟨w.heap.size,1,none⟩=some v1/\w'.cell? ⟨w.heap.size,2,none⟩=some (.int .i64 W.time)/\w'.cell? ⟨w.heap.size,3,none⟩=some (.int .i64 W.next)/\w'.cell? ⟨w.heap.size,4,none⟩=some v2/\w'.cell? ⟨w.heap.size,5,none⟩=some v3/\w'.cell? ⟨V,0,none⟩=some (.int .i64 mk.zcD)/\w'.cell? ⟨V,2,none⟩=some (.int .i64 mk.rs)/\w'.cell? ⟨V,3,none⟩=some (.int .i64 mk.rb)) (go_keep)
   (first
    | (go_at_call 150;refine(zDy v0 v1 v2 v3 lo hi W mk.rs mk.rb _ ?_ HR.out jC.out).mono ?_;(exact nC.out.zb7 (Below.refl _ _).drew);rintro e w5 ⟨vt,rfl,eC,bC⟩;rw[fE.out]at eC;obtain⟨kF,lF,rfl,-⟩:=qf eC;have rA:=qY bC;obtain⟨⟨k0,_⟩,⟨k1,_⟩,⟨k2,_⟩,⟨k3,_⟩,⟨k4,_⟩,⟨k5,_⟩⟩:=mA.out.zb7 rA;obtain⟨⟨l0,_⟩,_,⟨l2,_⟩,⟨l3,_⟩,_⟩:=HV.out.zb7 rA)
    | (go_at_call 144;refine(zEd lo hi W A mk.zcD _ (fC.out.zb7 rA) HD.out pE.out hp).mono ?_;rintro e w6 ⟨aa,ca,rfl,eF,vC⟩;rw[dE.out];have vB:=zA rA vC;obtain⟨⟨f0,_⟩,⟨f1,_⟩,⟨f2,_⟩,⟨f3,_⟩,⟨f4,_⟩,⟨f5,_⟩⟩:=mA.out.zb7 vB;obtain⟨⟨g0,_⟩,_,⟨g2,_⟩,⟨g3,_⟩,_⟩:=HV.out.zb7 vB)
    | (go_at_call 149;refine(zD6 _ tree.length 0 _ (zx tree) (qS tree) S.time _ ((eC.zb7 vC).atW (by omega))).mono ?_;rintro e w7 ⟨vy,vz,ly,lz,rfl,hY,-,hy,-,-,pD⟩;rw[(hY.1 ⟨iC.out,pC.out⟩).trans (zJh tree S.time)]at hy;rw[<-rC.out]at hy;obtain⟨ay,cy,rfl,nF⟩:=qf hy;have sA:=zA vB pD;obtain⟨⟨m0,_⟩,⟨m1,_⟩,⟨m2,_⟩,⟨m3,_⟩,⟨m4,_⟩,⟨m5,_⟩⟩:=mA.out.zb7 sA;obtain⟨⟨n0,_⟩,_,⟨n2,_⟩,⟨n3,_⟩,_⟩:=HV.out.zb7 sA))
  have HY:=zB hy;have jA:=zB (iA.out.kept (zCo sA none) (by simp));have kC:=zB (zDr pA.out (zCo sA (some (w.heap.size+1))));have jF:=zB (mA.out.zb7 sA);have bB:=zA aC sA;have aG:w.heap.size+2<=w7.heap.size:=Nat.le_trans aB.out sA.size;have vF:=rE.out;have oF:=lE.out;clear hy sA pD vB vC rA bC eC eF hY mA HV fC nC iA pA aB iC pC vE aF x0 x1 x2 x3 x4 x5 y0 y1 y2 y3 y4 k0 k1 k2 k3 k4 k5 l0 l2 l3 f0 f1 f2 f3 f4 f5 g0 g2 g3 m0 m1 m2 m3 m4 m5 n0 n2 n3;generalize tF:zBK W mk=yl at *;go_wp2_with fail
  go_loopw [6,31] (fun s i wr=>∃j:Nat,j<=yl.length/\s = .bool true/\i = .int .i64 j/\wr.ownsMap Tryz.prog 70 zEZ (w.heap.size+1) ((zq W k).length+j) (zOA key ((zq W k).length+j))/\zIq ((zq W k).length+j) key/\w7.grownBy wr (some (w.heap.size+1))/\Below w.heap.size w wr) (fun _ i _=>yl.length - (intOf i).toNat)
  case atStart=>exact⟨0,Nat.zero_le _,rfl,rfl,jA.out,gA.out,World.grownBy.refl _ _,bB⟩
  case round=>
   clear bB;obtain⟨j,hj,rfl,rfl,lA,rD,lB,bB⟩:=hrel;have bA:=zB lA;have tB:=zB rD;have fA:=zB lB;clear lA rD lB;by_cases cD:j<yl.length;rotate_left
   ·obtain rfl:j=yl.length:=(by omega);go_wp2;go_roundw
    case rel=>
     refine⟨k+1,by omega,rfl,by go_num,?_,?_,zDr kC.out fA.out,bB⟩
     ·rw[fB.out];exact bA.out
     ·rw[fB.out];exact tB.out
    case measure=>simp[intOf];omega
   have bF:(j:Int)<(yl.length:Int):=(by omega);obtain⟨-,a7,c7,e7,-,kB⟩:=id (HY.out.atW (by omega));cases e7;obtain⟨b7,o7,rfl,-,-,kB⟩:=kB (by omega);have q0:=zDp fA.out jA.out (kB j cD).1;have q1:=zDp fA.out jA.out (kB j cD).2;clear kB;obtain⟨fD,vD⟩:=jE.out j cD;have mB:keyOf Tryz.prog 70 (.agg #[.int .i64 (zx yl j),.int .i64 (qS yl j)])=some (key ((zq W k).length+j)):=by
    have:=HK.out.at_ _ fD;rw[vD]at this;exact this
   have mE:=zB fD;have dA:=zB mB;clear vD fD mB;have nA:=zD wr (.cells #[.int .i64 (zx yl j),.int .i64 (qS yl j)] 70);have HV:=zB (zA9.new wr (.int .i64 (zx yl j)) (.int .i64 (qS yl j)) 70);have cA:=zB ((bA.out.kept (zCo nA none) (by simp)).kept (zCo ((Below.refl _ _).drew) none) (by simp));have eB:=zB (zDr fA.out (zCo nA (some (w.heap.size+1))));have cB:=zA bB nA;have kA:=zB (show w.heap.size+1<wr.heap.size by have:=fA.out.size;omega);clear nA fA bA;have sF:(zq W k).length+j<=3000:=(by omega);generalize aE:(zq W k).length+j=p at *;have mD:=zB aE;clear aE;generalize zx yl j=xs at *;generalize qS yl j=xb at *;go_wp2_with fail;clear q0 q1;generalize wr.alloc (.cells #[.int .i64 xs,.int .i64 xb] 70)=W3 at HV cA eB cB ⊢;generalize wr.heap.size=V at HV kA ⊢;by_cases eA:∀i,i<p->key i≠key p
   ·have dD:=zJD cA.out dA.out (HK.out.new eA);obtain⟨ev,st,wa,wb,he,eD,pB,aA,bD,oA⟩:=zN3 cA.out zZu zMC (by unfold maxLen;omega) zYQ dA.out (HK.out.new eA) (val:=.int .i64 1);obtain⟨⟨y0,-⟩,⟨y1,-⟩⟩:=HV.out.zb7 ((Below.refl _ _).drew);have z0:=(oA.cell_far _ (zH y0) (fun e=>by have h1:=Option.some.inj e;have h2:=kA.out;simp only at h1;omega)).trans y0;have z1:=(oA.cell_far _ (zH y1) (fun e=>by have h1:=Option.some.inj e;have h2:=kA.out;simp only at h1;omega)).trans y1;have cF:=zJD aA dA.out (HK.out.put p _);have gB:=zB aA;have kE:=zB (zDr (zDr eB.out (zCo ((Below.refl _ _).drew) (some (w.heap.size+1)))) oA);have aD:=cB.drew.grown oA (Nat.le_trans cB.size (Nat.le_refl _)) (fun q e=>by cases e;omega);have lC:=zB eA;clear aA bD oA eA cB bB;unfold goInt at he pB;go_region;clear dD eD he pB y0 y1;go_wp2;go_roundw
    case rel=>exact⟨j+1,by omega,rfl,by go_num,by rw[show(zq W k).length+(j+1)=p+1 by have:=mD.out;omega];exact gB.out,by rw[show(zq W k).length+(j+1)=p+1 by have:=mD.out;omega];exact zIQ.2 ⟨tB.out,lC.out⟩,kE.out,aD⟩
    case measure=>simp[intOf];omega
   ·obtain⟨i0,dC,cC⟩:∃i,i<p/\key i=key p:=by
     by_cases hx:∃i,i<p/\key i=key p
     ·exact hx
     ·exact absurd (fun i hi e=>hx ⟨i,hi,e⟩) eA
    have mC:=zB (HK.out.not_nodup dC mE.out cC);have dD:=zJD cA.out dA.out (HK.out.old dC cC tB.out);obtain⟨ev,st,wa,wb,he,eD,pB,aA,bD,oA⟩:=zN3 cA.out zZu zMC (by unfold maxLen;omega) zYQ dA.out (HK.out.old dC cC tB.out) (val:=.int .i64 2);obtain⟨⟨y0,-⟩,⟨y1,-⟩⟩:=HV.out.zb7 ((Below.refl _ _).drew);have z0:=(oA.cell_far _ (zH y0) (fun e=>by have h1:=Option.some.inj e;have h2:=kA.out;simp only at h1;omega)).trans y0;have z1:=(oA.cell_far _ (zH y1) (fun e=>by have h1:=Option.some.inj e;have h2:=kA.out;simp only at h1;omega)).trans y1;have cF:=zJD aA dA.out (HK.out.put p _);have aD:=cB.drew.grown oA (Nat.le_trans cB.size (Nat.le_refl _)) (fun q e=>by cases e;omega);clear aA bD oA eA cB bB dC cC;unfold goInt at he pB;go_region;clear dD eD he pB y0 y1;go_wp2_with fail;go_region;go_wp2;rw[Exit.noGoto_ret];go_ret;exact⟨zK.no fun hx=>mC.out hx.1,aD.drew⟩
theorem zIV(v0 v1 v2 v3:Value)(lo hi:Nat)(W:zC)(w:World)(h:yQ w lo hi v0 v1 v2 v3 W)(aB:zB1 W) :
  Calls Tryz.prog 91 #[zBb v0 v1 v2 v3 W] w fun e w'=>zK (zFE W) e/\Below w.heap.size w w':=by
 have Hp:=zB h;have cA:=zB aB;clear h aB;have ha:=zD w (.cells #[v0,v1,.int .i64 W.time,.int .i64 W.next,v2,v3] 30);have HB:=zB (zAC.new w v0 v1 (.int .i64 W.time) (.int .i64 W.next) v2 v3 30);obtain⟨x0,x1,x2,x3,x4,x5⟩:=HB.out.c;go_enter Tryz.func91,Tryz.ntmps91;go_wp2_with fail;generalize w.alloc (.cells #[v0,v1,.int .i64 W.time,.int .i64 W.next,v2,v3] 30)=W0 at ha HB x0 x1 x2 x3 x4 x5 ⊢;refine(zGw W.time W0).mono ?_;rintro e w1 ⟨⟨t1,rfl,bA⟩,rfl⟩;have aA:=zB bA;clear bA;cases t1
 ·have Hn:=zB (show ¬zFE W from fun hI=>absurd (aA.out.2 hI.zcE.time) (by simp));clear aA;go_wp2;go_ret;exact⟨zK.no Hn.out,ha⟩
 have H1:=zB (aA.out.1 rfl);clear aA;go_wp2_with fail;refine(zGw W.next _).mono ?_;rintro e w1 ⟨⟨t1,rfl,bA⟩,rfl⟩;have aA:=zB bA;clear bA;cases t1
 ·have Hn:=zB (show ¬zFE W from fun hI=>absurd (aA.out.2 hI.zcE.next) (by simp));clear aA;go_wp2;go_ret;exact⟨zK.no Hn.out,ha⟩
 have H2:=zB (aA.out.1 rfl);clear aA;go_wp2_with fail;refine(zNk v2 W.sn lo hi W.zcC _ (Hp.out.zb7 ha).zcC).mono ?_;rintro e w2 ⟨⟨t1,rfl,bA⟩,hc⟩;have aA:=zB bA;have dA:=zA ha hc;have nA:=zB (HB.out.zb7 hc);clear bA hc x0 x1 x2 x3 x4 x5;obtain⟨x0,x1,x2,x3,x4,x5⟩:=nA.out.c;cases t1
 ·have Hn:=zB (show ¬zFE W from fun hI=>absurd (aA.out.2 hI.zcE.zcC) (by simp));clear aA;go_wp2;go_ret;exact⟨zK.no Hn.out,dA⟩
 have H3:=zB (aA.out.1 rfl);clear aA;have hs:=H3.out.1;go_wp2_with fail;refine(zM8 v0 v1 v2 v3 lo hi W _ (Hp.out.zb7 dA) hs).mono ?_;rintro e w3 ⟨⟨t1,rfl,bA⟩,hc⟩;have aA:=zB bA;have eA:=zA dA hc;have oA:=zB (nA.out.zb7 hc);clear bA hc x0 x1 x2 x3 x4 x5;obtain⟨x0,x1,x2,x3,x4,x5⟩:=oA.out.c;cases t1
 ·have Hn:=zB (show ¬zFE W from fun hI=>absurd (aA.out.2 hI.zcE.zb9) (by simp));clear aA;go_wp2;go_ret;exact⟨zK.no Hn.out,eA⟩
 have H4:=zB (aA.out.1 rfl);clear aA;have hp:=H4.out.1;have HN:=zB (show zFD W from⟨H1.out,H2.out,H3.out,H4.out⟩);go_wp2_with fail;refine(zFI v0 v1 lo hi W.pool _ (Hp.out.zb7 eA).pool).mono ?_;rintro e w4 ⟨⟨t1,rfl,bA⟩,hc⟩;have aA:=zB bA;have fA:=zA eA hc;have pA:=zB (oA.out.zb7 hc);clear bA hc x0 x1 x2 x3 x4 x5;obtain⟨x0,x1,x2,x3,x4,x5⟩:=pA.out.c;cases t1
 ·have Hn:=zB (show ¬zFE W from fun hI=>absurd (aA.out.2 hI.right) (by simp));clear aA;go_wp2;go_ret;exact⟨zK.no Hn.out,fA⟩
 have H5:=zB (aA.out.1 rfl);clear aA;go_wp2_with fail;refine(zP7 v0 v1 v2 v3 lo hi W _ (Hp.out.zb7 fA) hp HN.out.idsWf).mono ?_;rintro e w5 ⟨A,rfl,hA,hc⟩;have kA:=zB hA;have vA:=zA fA hc;have rA:=zB (pA.out.zb7 hc);clear hA hc x0 x1 x2 x3 x4 x5;obtain⟨x0,x1,x2,x3,x4,x5⟩:=rA.out.c;go_wp2_with fail;refine(zMv v0 v1 v2 v3 lo hi W A _ (Hp.out.zb7 vA) hs hp kA.out HN.out.dist cA.out).mono ?_;rintro e w6 ⟨⟨t1,rfl,bA⟩,hc⟩;have aA:=zB bA;have gA:=zA vA hc;have sA:=zB (rA.out.zb7 hc);have lA:=zB (kA.out.zb7 hc);clear bA hc x0 x1 x2 x3 x4 x5;obtain⟨x0,x1,x2,x3,x4,x5⟩:=sA.out.c;cases t1
 ·have Hn:=zB (show ¬zFE W from fun hI=>absurd (aA.out.2 hI.prevs) (by simp));clear aA;go_wp2;go_ret;exact⟨zK.no Hn.out,gA⟩
 have H7:=zB (aA.out.1 rfl);clear aA;go_wp2_with fail;refine(zMU v0 v1 v2 v3 lo hi W A _ (Hp.out.zb7 gA) hp hs lA.out HN.out.dist (HN.out.prevOk H7.out)).mono ?_;rintro e w7 ⟨⟨t1,rfl,bA⟩,hc⟩;have aA:=zB bA;have iA:=zA gA hc;have tA:=zB (sA.out.zb7 hc);have mA:=zB (lA.out.zb7 hc);clear bA hc x0 x1 x2 x3 x4 x5;obtain⟨x0,x1,x2,x3,x4,x5⟩:=tA.out.c;cases t1
 ·have Hn:=zB (show ¬zFE W from fun hI=>absurd (aA.out.2 hI.lines) (by simp));clear aA;go_wp2;go_ret;exact⟨zK.no Hn.out,iA⟩
 have H8:=zB (aA.out.1 rfl);clear aA;go_wp2_with fail;refine(zNE v0 v1 v2 v3 lo hi W A _ (Hp.out.zb7 iA) hs hp mA.out HN.out.dist cA.out H5.out HN.out.times).mono ?_;rintro e w8 ⟨⟨t1,rfl,bA⟩,hc⟩;have aA:=zB bA;have jA:=zA iA hc;have cB:=zB (tA.out.zb7 hc);have bB:=zB (mA.out.zb7 hc);clear bA hc x0 x1 x2 x3 x4 x5;obtain⟨x0,x1,x2,x3,x4,x5⟩:=cB.out.c;cases t1
 ·have Hn:=zB (show ¬zFE W from fun hI=>absurd (aA.out.2 hI.trees) (by simp));clear aA;go_wp2;go_ret;exact⟨zK.no Hn.out,jA⟩
 have H9:=zB (aA.out.1 rfl);clear aA;go_wp2_with fail;refine(zMB v0 v1 v2 v3 lo hi W A _ (Hp.out.zb7 jA) hs hp bB.out HN.out.dist cA.out H5.out HN.out.times H9.out.1).mono ?_;rintro e w9 ⟨⟨t1,rfl,bA⟩,hc⟩;have aA:=zB bA;have eB:=zA jA hc;clear bA hc;have Hn:=zB (show t1=true↔zFE W from⟨fun e=>⟨HN.out,H5.out,H7.out,H8.out,H9.out,aA.out.1 e⟩,fun hI=>aA.out.2 hI.homes⟩);clear aA;go_wp2;go_ret;exact⟨⟨t1,rfl,Hn.out⟩,eB⟩
theorem zD5(a:Option Addr)(n c:Nat)(xs:List Value)(w:World)(hl:xs.length=n*6)(iA:∀u∈xs,u.oneCell'=true)(hn:n<=1048576)
  (hc:0<n->∃b off,a=some ⟨b,off,none⟩/\∀j u,xs[j]?=some u->w.cell? ⟨b,off+j,none⟩=some u) :
  Calls Tryz.prog 134 #[.slice a n c] w fun e w'=>∃v',e = .returned v'/\w'.ownsRow w.heap.size 72 6 v' n xs/\Below w.heap.size w w'/\(n=0->∃a,v' = .slice a 0 0):=by
 have Hc:Hid (0<n->∃b off,a=some ⟨b,off,none⟩/\∀j u,xs[j]?=some u->w.cell? ⟨b,off+j,none⟩=some u):=hc;have Hl:Hid (xs.length=n*6/\∀u∈xs,u.oneCell'=true):=⟨hl,iA⟩;clear hc hl iA;have pA:=fun w=>Lib.run_eql_slice_nil (P:=Tryz.prog) w 27 72 a n c 0 0 (by kernel_rfl)
 cases a with
 | none=>
  have nA:n=0:=by
   by_cases h:0<n
   ·obtain⟨b,off,ha,_⟩:=Hc.out h;simp at ha
   ·omega
  subst nA;have oA:xs = []:=List.eq_nil_of_length_eq_zero (by simpa using Hl.out.1);subst oA;go_enter Tryz.func134,Tryz.ntmps134;go_wp2;go_ret;exact⟨_,rfl,World.ownsRow_nil _ _ _ _,Below.refl _ _,fun _=>⟨_,rfl⟩⟩
 | some ad=>
  obtain⟨i0,hi,lA⟩:=Option.map_eq_some_iff.1 zQh;simp only[Prod.mk.injEq]at lA;obtain⟨hz,hs,kA⟩:=lA;have HI:Hid (Tryz.prog.info? 72=some i0/\i0.zero=some (.agg #[.string ⟨#[]⟩,.int .i64 0,.int .i64 0,.int .i64 0,.int .i64 0,.slice none 0 0])/\i0.size=6/\i0.bytes=72):=⟨hi,hz,hs,kA⟩;have aA:Hid ((w.alloc (.cells #[] 72)).ownsRow w.heap.size 72 6 (.slice (some ⟨w.heap.size,0,none⟩) 0 0) 0 []):=World.ownsRow_made w #[] 0 (Nat.le_refl _) (Nat.zero_le _) (by simp);clear hi hz hs kA;go_enter Tryz.func134,Tryz.ntmps134;go_wp2_with (first
   | (at_builtin;refine zBD rfl _ _ 27 rfl w.heap.size 72 i0 (.agg #[.string ⟨#[]⟩,.int .i64 0,.int .i64 0,.int .i64 0,.int .i64 0,.slice none 0 0]) 6 72 (by kernel_rfl) HI.out.1 HI.out.2.1 HI.out.2.2.1 HI.out.2.2.2 rfl (by decide) _ _ _ rfl aA.out (some ad) n c xs rfl Hl.out.1 Hl.out.2 ?c1 ?c3 ?c4 ?c5 ?_))
  case c1=>
   intro h0;obtain⟨b,off,ha,bA⟩:=Hc.out h0;exact⟨b,off,ha,fun j u hj=>(((Below.refl _ _).alloc (Nat.le_refl _) _).cell (zH (bA j u hj))).trans (bA j u hj)⟩
  case c3=>unfold maxLen;omega
  case c4=>omega
  case c5=>simp
  intro v' w1 dA cA gA;have mA:Below w.heap.size w w1:=((Below.refl _ _).alloc (Nat.le_refl _) _).grown cA (by simp) (fun q hq=>by have:=aA.out.lt q hq;omega);have eA:w1.ownsRow w.heap.size 72 6 v' n xs:=(by simpa using dA);have fA:Hid (w1.ownsRow w.heap.size 72 6 v' n xs):=eA;have jA:Hid (n=0->v' = .slice (some ⟨w.heap.size,0,none⟩) 0 0):=gA;clear dA eA cA gA;go_wp2;go_ret;exact⟨v',rfl,fA.out,mA,fun e=>⟨_,jA.out e⟩⟩
theorem zCm(a:Option Addr)(n c:Nat)(xs:List Value)(w:World)(hl:xs.length=n*8)(iA:∀u∈xs,u.oneCell'=true)(hn:n<=1048576)
  (hc:0<n->∃b off,a=some ⟨b,off,none⟩/\∀j u,xs[j]?=some u->w.cell? ⟨b,off+j,none⟩=some u) :
  Calls Tryz.prog 135 #[.slice a n c] w fun e w'=>∃v',e = .returned v'/\w'.ownsRow w.heap.size 75 8 v' n xs/\Below w.heap.size w w'/\(n=0->∃a,v' = .slice a 0 0):=by
 have Hc:Hid (0<n->∃b off,a=some ⟨b,off,none⟩/\∀j u,xs[j]?=some u->w.cell? ⟨b,off+j,none⟩=some u):=hc;have Hl:Hid (xs.length=n*8/\∀u∈xs,u.oneCell'=true):=⟨hl,iA⟩;clear hc hl iA;have pA:=fun w=>Lib.run_eql_slice_nil (P:=Tryz.prog) w 28 75 a n c 0 0 (by kernel_rfl)
 cases a with
 | none=>
  have nA:n=0:=by
   by_cases h:0<n
   ·obtain⟨b,off,ha,_⟩:=Hc.out h;simp at ha
   ·omega
  subst nA;have oA:xs = []:=List.eq_nil_of_length_eq_zero (by simpa using Hl.out.1);subst oA;go_enter Tryz.func135,Tryz.ntmps135;go_wp2;go_ret;exact⟨_,rfl,World.ownsRow_nil _ _ _ _,Below.refl _ _,fun _=>⟨_,rfl⟩⟩
 | some ad=>
  obtain⟨i0,hi,lA⟩:=Option.map_eq_some_iff.1 zOG;simp only[Prod.mk.injEq]at lA;obtain⟨hz,hs,kA⟩:=lA;have HI:Hid (Tryz.prog.info? 75=some i0/\i0.zero=some (.agg #[.int .i64 0,.string ⟨#[]⟩,.string ⟨#[]⟩,.int .i64 0,.int .i64 0,.int .i64 0,.int .i64 0,.slice none 0 0])/\i0.size=8/\i0.bytes=96):=⟨hi,hz,hs,kA⟩;have aA:Hid ((w.alloc (.cells #[] 75)).ownsRow w.heap.size 75 8 (.slice (some ⟨w.heap.size,0,none⟩) 0 0) 0 []):=World.ownsRow_made w #[] 0 (Nat.le_refl _) (Nat.zero_le _) (by simp);clear hi hz hs kA;go_enter Tryz.func135,Tryz.ntmps135;go_wp2_with (first
   | (at_builtin;refine zBD rfl _ _ 28 rfl w.heap.size 75 i0 (.agg #[.int .i64 0,.string ⟨#[]⟩,.string ⟨#[]⟩,.int .i64 0,.int .i64 0,.int .i64 0,.int .i64 0,.slice none 0 0]) 8 96 (by kernel_rfl) HI.out.1 HI.out.2.1 HI.out.2.2.1 HI.out.2.2.2 rfl (by decide) _ _ _ rfl aA.out (some ad) n c xs rfl Hl.out.1 Hl.out.2 ?c1 ?c3 ?c4 ?c5 ?_))
  case c1=>
   intro h0;obtain⟨b,off,ha,bA⟩:=Hc.out h0;exact⟨b,off,ha,fun j u hj=>(((Below.refl _ _).alloc (Nat.le_refl _) _).cell (zH (bA j u hj))).trans (bA j u hj)⟩
  case c3=>unfold maxLen;omega
  case c4=>omega
  case c5=>simp
  intro v' w1 dA cA gA;have mA:Below w.heap.size w w1:=((Below.refl _ _).alloc (Nat.le_refl _) _).grown cA (by simp) (fun q hq=>by have:=aA.out.lt q hq;omega);have eA:w1.ownsRow w.heap.size 75 8 v' n xs:=(by simpa using dA);have fA:Hid (w1.ownsRow w.heap.size 75 8 v' n xs):=eA;have jA:Hid (n=0->v' = .slice (some ⟨w.heap.size,0,none⟩) 0 0):=gA;clear dA eA cA gA;go_wp2;go_ret;exact⟨v',rfl,fA.out,mA,fun e=>⟨_,jA.out e⟩⟩
def del{α : Type}(f:Nat->α)(k:Nat):Nat->α:=fun i=>if i<k then f i else f (i+1)
def zVy(W:zC)(x:Int)(i:Nat):Prop:=i<W.pn/\(W.zb9 i).zcD=x/\(∀j,j<W.pn->j≠i->(W.zb9 j).zcD≠x)/\∀j,j<W.sn->(W.zcC j).zcD≠x
def zVz(W:zC)(x:Int)(i:Nat):Prop:=i<W.sn/\(W.zcC i).zcD=x/\(∀j,j<W.sn->j≠i->(W.zcC j).zcD≠x)/\∀j,j<W.pn->(W.zb9 j).zcD≠x
theorem zFh{f:Nat->Int}{x:Int}:∀{n:Nat},zGG f x n=0->∀j,j<n->f j≠x
 | 0,_,j,hj=>absurd hj (Nat.not_lt_zero _)
 | n+1,h,j,hj=>by
  by_cases e:f n=x
  ·rw[zQJ e]at h;omega
  ·rw[zTI e]at h;by_cases aA:j=n
   ·rw[aA];exact e
   ·exact zFh h j (by omega)
theorem zQI{f:Nat->Int}{x:Int}{n i:Nat}(hi:i<n)(h:f i=x):1<=zGG f x n:=by
 rcases Nat.eq_zero_or_pos (zGG f x n)with h0 | h0
 ·exact absurd h (zFh h0 i hi)
 ·exact h0
theorem zLn{f:Nat->Int}{x:Int}:∀{n:Nat},zGG f x n=1->∃i,i<n/\f i=x/\∀j,j<n->j≠i->f j≠x
 | 0,h=>absurd h (by simp[zGG])
 | n+1,h=>by
  by_cases e:f n=x
  ·rw[zQJ e]at h;exact⟨n,by omega,e,fun j hj aA=>zFh (n:=n) (by omega) j (by omega)⟩
  ·rw[zTI e]at h;obtain⟨i,hi,h1,h2⟩:=zLn h;refine⟨i,by omega,h1,fun j hj aA=>?_⟩;by_cases bA:j=n
   ·rw[bA];exact e
   ·exact h2 j (by omega) aA
theorem zZJ{W:zC}{x:Int}(h:zT0 W x=1):(∃i,zVy W x i)\/∃i,zVz W x i:=by
 unfold zT0 at h;rcases Nat.eq_zero_or_pos (zGG (fun i=>(W.zcC i).zcD) x W.sn)with h0 | h0
 ·rw[h0,Nat.zero_add]at h;obtain⟨i,hi,h1,h2⟩:=zLn h;exact Or.inl ⟨i,hi,h1,h2,zFh h0⟩
 ·obtain⟨i,hi,h1,h2⟩:=zLn (f:=fun i=>(W.zcC i).zcD) (x:=x) (n:=W.sn) (by omega);exact Or.inr ⟨i,hi,h1,h2,zFh (f:=fun i=>(W.zb9 i).zcD) (n:=W.pn) (by omega)⟩
noncomputable def sdY(W:zC)(g:zu)(n:Nat)(f h:Nat->Int):List (Int×Int):=zAc f h (zI W g.zcD).time n
noncomputable def sdO(W:zC)(g:zu)(n:Nat)(f h:Nat->Int):List (Int×Int):=zES f h (zI W g.zcD).time n
noncomputable def sdD(W:zC)(g:zu)(n:Nat)(f h:Nat->Int):List (Int×Int):=zDj g.dn g.ds g.db ++ sdO W g n f h
noncomputable def zPm(W:zC)(g s:zu):zu:={s with zcD:=g.zcD,dn:=(sdD W g s.dn s.ds s.db).length,ds:=zx (sdD W g s.dn s.ds s.db),db:=qS (sdD W g s.dn s.ds s.db)}
noncomputable def zUR(W:zC)(g:zu)(s:zAJ):zAJ:={s with zcD:=g.zcD,dn:=(sdD W g s.dn s.ds s.db).length,ds:=zx (sdD W g s.dn s.ds s.db),db:=qS (sdD W g s.dn s.ds s.db)}
noncomputable def za5(W:zC)(k i:Nat):Nat->zu:=fun j=>if j=i then zPm W (W.zb9 k) (W.zb9 i)else W.zb9 j
noncomputable def za6(W:zC)(k i:Nat):Nat->zAJ:=fun j=>if j=i then zUR W (W.zb9 k) (W.zcC i)else W.zcC j
noncomputable def zRO(W:zC)(k i:Nat):List (Int×Int):=sdY W (W.zb9 k) (W.zb9 i).dn (W.zb9 i).ds (W.zb9 i).db
noncomputable def zNi(W:zC)(k i:Nat):List (Int×Int):=sdY W (W.zb9 k) (W.zcC i).dn (W.zcC i).ds (W.zcC i).db
noncomputable def zbt(W:zC)(k i:Nat):zC:={W with pool:=yH W.pool (zRO W k i),pn:=W.pn - 1,zb9:=del (za5 W k i) k}
noncomputable def zbu(W:zC)(k i:Nat):zC:={W with pool:=yH W.pool (zNi W k i),zcC:=za6 W k i,pn:=W.pn - 1,zb9:=del W.zb9 k}
theorem zVW{n:Nat}{f g:Nat->Int}{x:Int×Int}(h:x∈zDj n f g):∃j,j<n/\f j=x.1/\g j=x.2:=by
 unfold zDj at h;obtain⟨j,hj,rfl⟩:=List.mem_map.1 h;exact⟨j,List.mem_range.1 hj,rfl,rfl⟩
theorem zHW{W:zC}(hS:zB9 W){i:Nat}(hi:i<zt W)(t:Int):zAF (zL W i).dn (zL W i).ds (zL W i).db/\zLH W.pool (zAc (zL W i).ds (zL W i).db t (zL W i).dn):=by
 have hD:zF8 W i:=by
  by_cases hp:i<W.pn
  ·exact hS.dead i hp
  ·have:=(hS.zcC (i - W.pn) (by unfold zt at hi;omega)).2
   rwa [show W.pn+(i - W.pn)=i by omega]at this
 obtain⟨h1,-,-,bA⟩:=hD;refine⟨h1,?_⟩;have hH:zLH W.pool (zDj (zL W i).dn (zL W i).ds (zL W i).db):=by
  refine⟨hS.right,fun x hx=>?_,?_⟩
  ·obtain⟨j,hj,e1,e2⟩:=zVW hx;have hm:=zE3.1 (bA j hj);rw[e1,e2]at hm;unfold zB7 at hm;have:=zCZ hS.right (zPa hS.zb9 (zL W i).zcD) (List.mem_filter.1 hm).1;exact⟨this.1,this.2.2⟩
  ·unfold zDj;rw[List.map_map];unfold List.Nodup;rw[List.pairwise_map];refine List.pairwise_iff_getElem.2 fun a b ha hb aA=>?_
   rw[List.length_range]at ha hb;rw[List.getElem_range,List.getElem_range];exact fun e=>h1.2.2 b hb a aA e
 exact hH.sub (zKK _ _ _ _)
set_option linter.unusedSimpArgs false
set_option maxRecDepth 20000
set_option maxHeartbeats 3200000
open Classical in
noncomputable def sdK(W:zC)(x:Int)(k:Nat):zDX:=if h:∃i,zVz W x i then⟨zbu W k h.choose,0,((zNi W k h.choose).length:Int),0⟩else if h:∃i,zVy W x i then⟨zbt W k h.choose,0,((zRO W k h.choose).length:Int),0⟩else⟨{W with pn:=W.pn - 1,zb9:=del W.zb9 k},0,0,0⟩
open Classical in
noncomputable def sdE(W:zC)(x:Int):zDX:=if zB9 W then(if zCO W x then(if 1<zGY W x W.sn+zHE W x W.pn then yD 7 else sdK W x (zH5 W x))else yD 4)else yD 1
structure zbH (W:zC) (x:Int) (k:Nat) (o:zDX) (VP:Nat->zF) (VS:Nat->Nat->zAJ) (m:Nat->Nat) (UP:Nat->zF) (US:Nat->Nat->zu) (l:Nat->Nat):Prop where
 v0:VP 0=W.pool/\VS 0=W.zcC/\m 0=0
 vn:∀j,(VP j).n=W.pool.n/\m j<=1000000
 cur:∀j,VS j j=W.zcC j
 no:∀j,j<W.sn->(W.zcC j).zcD≠x->VP (j+1)=VP j/\VS (j+1)=VS j/\m (j+1)=m j
 yes:∀j,j<W.sn->(W.zcC j).zcD=x->VP (j+1)=yH (VP j) (zNi W k j)/\VS (j+1)=(fun i=>if i=j then zUR W (W.zb9 k) (W.zcC j)else VS j i)/\m (j+1)=m j+(zNi W k j).length/\(VP j).hn<=W.pool.hn
 u0:UP 0=VP W.sn/\US 0=W.zb9/\l 0=m W.sn
 un:∀j,(UP j).n=W.pool.n/\l j<=1000000
 cur2:∀j,US j j=W.zb9 j
 no2:∀j,j<W.pn->(W.zb9 j).zcD≠x->UP (j+1)=UP j/\US (j+1)=US j/\l (j+1)=l j
 yes2:∀j,j<W.pn->(W.zb9 j).zcD=x->UP (j+1)=yH (UP j) (zRO W k j)/\US (j+1)=(fun i=>if i=j then zPm W (W.zb9 k) (W.zb9 j)else US j i)/\l (j+1)=l j+(zRO W k j).length/\(UP j).hn<=W.pool.hn
 fin:o=⟨⟨UP W.pn,W.time,W.next,W.sn,VS W.sn,W.pn - 1,del (US W.pn) k⟩,0,l W.pn,0⟩
theorem zRP{W:zC}(h:zB9 W):(∀j,j<W.sn->(W.zcC j).dn<=200)/\∀j,j<W.pn->(W.zb9 j).dn<=200:=by
 refine⟨fun j hj=>?_,fun j hj=>?_⟩
 ·have:=(zHW h (i:=W.pn+j) (by unfold zt;omega) 0).1.1
  rwa [zBF]at this
 ·have:=(zHW h (i:=j) (by unfold zt;omega) 0).1.1
  rwa [yW hj]at this
theorem zT8(W:zC)(x:Int):∀n,zGY W x n=zGG (fun i=>(W.zcC i).zcD) x n
 | 0=>rfl
 | n+1=>by rw[zGY,zGG,zT8]
theorem zT6(W:zC)(x:Int):∀n,zHE W x n=zGG (fun i=>(W.zb9 i).zcD) x n
 | 0=>rfl
 | n+1=>by rw[zHE,zGG,zT6]
theorem za7{W:zC}{x:Int}{k:Nat}(hs:∀i,i<W.sn->(W.zcC i).dn<=1000000)(hp:∀i,i<W.pn->(W.zb9 i).dn<=1000000)(h1:¬1<zGY W x W.sn+zHE W x W.pn):∃VP VS m UP US l,zbH W x k (sdK W x k) VP VS m UP US l:=by
 have eT:∀i,i<W.sn->(zNi W k i).length<=1000000:=fun i hi=>Nat.le_trans (zBv ..) (hs i hi)
 have eS:∀i,i<W.pn->(zRO W k i).length<=1000000:=fun i hi=>Nat.le_trans (zBv ..) (hp i hi)
 rw[zT8,zT6]at h1;unfold sdK;by_cases hT:∃i,zVz W x i
 ·rw[dif_pos hT];obtain⟨hi,h2,h3,h4⟩:=hT.choose_spec;generalize hT.choose=i at *;refine⟨fun j=>if j<=i then W.pool else yH W.pool (zNi W k i),fun j=>if j<=i then W.zcC else za6 W k i,fun j=>if j<=i then 0 else(zNi W k i).length,fun _=>yH W.pool (zNi W k i),fun _=>W.zb9,fun _=>(zNi W k i).length,⟨by simp,fun j=>?_,fun j=>?_,fun j hj e=>?_,fun j hj e=>?_,?_,fun j=>⟨(zB0 _ _).1,eT i hi⟩,fun _=>rfl,fun j hj e=>⟨rfl,rfl,rfl⟩,fun j hj e=>absurd e (h4 j hj),?_⟩⟩
  ·split
   ·exact⟨rfl,by omega⟩
   ·exact⟨(zB0 _ _).1,eT i hi⟩
  ·split
   ·rfl
   ·unfold za6;rw[if_neg (by omega)]
  ·have:j≠i:=fun h=>e (by rw[h];exact h2)
   have e1:(j+1<=i)↔(j<=i):=(by omega);simp[e1]
  ·have:j=i:=Classical.not_not.1 fun h=>h3 j hj h e
   subst this;have n1:¬j+1<=j:=(by omega);simp[n1];rfl
  ·simp[show ¬W.sn<=i by omega]
  ·simp[show ¬W.sn<=i by omega,zbu]
 rw[dif_neg hT];by_cases hS:∃i,zVy W x i
 ·rw[dif_pos hS];obtain⟨hi,h2,h3,h4⟩:=hS.choose_spec;generalize hS.choose=i at *;refine⟨fun _=>W.pool,fun _=>W.zcC,fun _=>0,fun j=>if j<=i then W.pool else yH W.pool (zRO W k i),fun j=>if j<=i then W.zb9 else za5 W k i,fun j=>if j<=i then 0 else(zRO W k i).length,⟨by simp,fun j=>⟨rfl,by simp⟩,fun j=>rfl,fun j hj e=>⟨rfl,rfl,rfl⟩,fun j hj e=>absurd e (h4 j hj),by simp,fun j=>?_,fun j=>?_,fun j hj e=>?_,fun j hj e=>?_,?_⟩⟩
  ·split
   ·exact⟨rfl,by omega⟩
   ·exact⟨(zB0 _ _).1,eS i hi⟩
  ·split
   ·rfl
   ·unfold za5;rw[if_neg (by omega)]
  ·have:j≠i:=fun h=>e (by rw[h];exact h2)
   have e1:(j+1<=i)↔(j<=i):=(by omega);simp[e1]
  ·have:j=i:=Classical.not_not.1 fun h=>h3 j hj h e
   subst this;have n1:¬j+1<=j:=(by omega);simp[n1];rfl
  ·simp[show ¬W.pn<=i by omega,zbt]
 rw[dif_neg hS];have z0:zT0 W x≠1:=fun e=>(zZJ e).elim hS hT
 unfold zT0 at z0;have z1:∀j,j<W.sn->(W.zcC j).zcD≠x:=fun j hj e=>by
  have:=zQI (f:=fun i=>(W.zcC i).zcD) hj e;omega
 have z2:∀j,j<W.pn->(W.zb9 j).zcD≠x:=fun j hj e=>by
  have:=zQI (f:=fun i=>(W.zb9 i).zcD) hj e;omega
 exact⟨fun _=>W.pool,fun _=>W.zcC,fun _=>0,fun _=>W.pool,fun _=>W.zb9,fun _=>0,⟨by simp,fun j=>⟨rfl,by simp⟩,fun j=>rfl,fun j hj e=>⟨rfl,rfl,rfl⟩,fun j hj e=>absurd e (z1 j hj),by simp,fun j=>⟨rfl,by simp⟩,fun j=>rfl,fun j hj e=>⟨rfl,rfl,rfl⟩,fun j hj e=>absurd e (z2 j hj),rfl⟩⟩
attribute [local go_sem] qW List.map_cons List.map_nil Tr.cv yo qG qw qv yn ym yk qu zAv zAx zAw zAs zAu zAt zCK zCM zCL qK zn qL zo qE qD qP yx zk zl yB qJ tmpsOf zAf yA qI zAr yu yq yp yr stpP opds opd opdC kap zAE qF zj coreU bin zAY zB6 get put dlO fgt zA6 zAz zA3 zA4 tyT yj yi Op.operands Call.operands evLoad evLen evStore evAlloc zAZ and_true true_and List.append_nil List.nil_append List.cons_append Ret resCv zBx yP cellM zBT zB3 qX StW StR hpT hpO hpV hpA hpL hpC sg nin zCD bdO tmW obW AvE CsE CvE Av.tup Av.ids Cv.ids inD ObE Ob.ids TrE.refl qH qx qy qM qN qO zm zb za yw zBd zCB zAy evCall argL argOf qj outOb obO yM zy cvO tot Tr.own rid partsOf fillC zT zBS frz frz1 evBuildSlice zc trs Cv.tr evSlice Option.toArray_none Option.toArray_some evMakeSlice evAppend dstOf srcOf zAq zA5 zA2 zA0 zA1 ikT qt qs qq qp RetP RetN zBe qR evLd evSt evStoreH zAP evAppendM evAppendT tlOf mvOf rowE shp evTake oOf evC evCallP evCallN evCallO unlast zAK zAp zAO argsF zCA qn pmC varT vT evField evConv dB0 Option.bind_some Option.bind_none Option.map_some Option.map_none Option.isSome_some Option.isSome_none
attribute [local go_sem] yF zY zAk yN qk zAS zAT zAU zAV zAW zAX yX yY yZ yb yd ye yf yg yG qe
attribute [-go_sem] zY
attribute [local go_sem] yV zBi zBj zAA yO
noncomputable def zWy:zW:=qZ (fun q:((zF×Int×Int)×(Nat×(Nat->Nat->Tr))×(Nat×(Nat->Nat->Tr)))×List (Int×Int)=>(true,[.s .o 3 q.1.1.1.n (zU .z q.1.1.1.s),.s .o 1 q.1.1.1.hn (qh q.1.1.1.h),.v (.int .i64 q.1.1.2.1),.v (.int .i64 q.1.1.2.2),.s .o 6 q.1.2.1.1 q.1.2.1.2,.s .o 8 q.1.2.2.1 q.1.2.2.2]) :: [psL q.2]) (fun q=>q.1.1.1.hn+q.2.length<=1000000/\(Tr.s .o 6 q.1.2.1.1 q.1.2.1.2).kept/\(Tr.s .o 8 q.1.2.2.1 q.1.2.2.2).kept) (fun q=>[(true,[.s .o 3 q.1.1.1.n (zU .z q.1.1.1.s),.s .o 1 (yH q.1.1.1 q.2).hn (qh (yH q.1.1.1 q.2).h),.v (.int .i64 q.1.1.2.1),.v (.int .i64 q.1.1.2.2),.s .o 6 q.1.2.1.1 q.1.2.1.2,.s .o 8 q.1.2.2.1 q.1.2.2.2]),iT q.2.length])
theorem zOR(p:zF)(a b:Int)(n:Nat)(F:Nat->Nat->Tr)(n':Nat)(G:Nat->Nat->Tr)(l:List (Int×Int)):zWy ((true,[.s .o 3 p.n (zU .z p.s),.s .o 1 p.hn (qh p.h),.v (.int .i64 a),.v (.int .i64 b),.s .o 6 n F,.s .o 8 n' G]) :: [psL l])=some (p.hn+l.length<=1000000/\(Tr.s .o 6 n F).kept/\(Tr.s .o 8 n' G).kept,[(true,[.s .o 3 p.n (zU .z p.s),.s .o 1 (yH p l).hn (qh (yH p l).h),.v (.int .i64 a),.v (.int .i64 b),.s .o 6 n F,.s .o 8 n' G]),iT l.length]):=
 zO (fun m=>(((zEt (nth m 0 0) (nth m 0 1),qg (nth m 0 2),qg (nth m 0 3)),(zE9 (nth m 0 4),zCS (nth m 0 4)),(zE9 (nth m 0 5),zCS (nth m 0 5))),zUl (nth m 1 0))) (fun q=>by exact congrArg (Prod.mk q.1) (zO4 q.2)) (((p,a,b),(n,F),(n',G)),l)
theorem zWQ:zBh Tryz.prog 107 zWy:=by
 refine zBM zs GOk.nil zr Tryz.func107 rfl Tryz.ntmps107 Tryz.results107 6 ?_;rintro⟨⟨⟨p0,a,b⟩,⟨n,F⟩,n',G⟩,l⟩ hn;obtain⟨hn,kF,kG⟩:p0.hn+l.length<=1000000/\(Tr.s .o 6 n F).kept/\(Tr.s .o 8 n' G).kept:=hn;refine⟨by simp,?_⟩;simp[go_sem];refine yE (fun k:Nat=>⟨[(5,true,.i k),(0,true,.m false [.p 0 0]),(1,true,.m false [.s .b 2 l.length (ptrsT (fun i=>zx l i) (fun i=>qS l i))])],[(0,.var [.h 1000,.h 2000,.v (.int .i64 a),.v (.int .i64 b),.h 5000,.h 6000]),(1000,.row 3 p0.n (zU .z p0.s)),(2000,.row 1 (yH p0 (l.take k)).hn (qh (yH p0 (l.take k)).h)),(5000,.row 6 n F),(6000,.row 8 n' G)]⟩) (fun k=>l.length - k) (fun k=>k<=l.length) 0 (by simp[go_sem,yH]) (Nat.zero_le _) ?_;intro k hk;obtain⟨p,hp⟩:∃p,p=yH p0 (l.take k):=⟨_,rfl⟩;have bA:p.hn=p0.hn+k:=by rw[hp,(zB0 _ _).2.2,List.length_take,Nat.min_eq_left hk]
 have aA:k<l.length->yH p0 (l.take (k+1))=zG3 p (zx l k):=fun h=>by
  rw[hp,List.take_succ_eq_append_getElem h,zGM,<-zQW];simp[h]
 rw[<-hp];simp[go_sem,qB (show k<=1000000000 by omega)];refine⟨fun hl=>⟨hl,by omega,by kernel_rfl,k+1,hl,by omega,rfl,?_⟩,fun hl=>?_⟩
 ·rw[aA hl];exact zJz
 ·cases (show k=l.length by omega);rw[List.take_length]at hp;subst hp;exact⟨zR,⟨TrE.refl _,zX⟩,kF,kG⟩
theorem zWj{fl:Fl}{k n a j:Nat}{F:Nat->Nat->Tr}{T:Tr}(h:(Tr.s fl k n F).kept)(hT:T.kept):(Tr.s fl k n (yK F a j [T])).kept:=by
 refine⟨h.1,fun i q hi hq=>?_⟩;unfold yK;split
 ·rename_i e
  have:q - j=0:=(by have:=e.2.2;simp at this;omega);rw[this];exact hT
 ·exact h.2 i q hi hq
theorem zZQ{n j m:Nat}{S:Nat->zAJ}{s:zAJ}{z:Tr}{F:Nat->Nat->Tr}(h:s.name=(S j).name/\s.origin=(S j).origin/\s.rs=(S j).rs/\s.rb=(S j).rb)(hd:TrE (.s .o 2 m F) (.s .o 2 s.dn (ptrsT s.ds s.db))):TrE (.s .o 6 n (yK (yK (yK (setsE .o S) j 5 [z]) j 5 [.s .o 2 m F]) j 2 [.v (.int .i64 s.zcD)])) (.s .o 6 n (setsE .o fun i=>if i=j then s else S i)):=by
 refine⟨.inl rfl,rfl,rfl,fun i c hi hc=>?_⟩;by_cases e:i=j
 ·subst e;obtain⟨h1,h2,h3,h4⟩:=h
  match c,hc with
  | 0,_ | 1,_ | 2,_ | 3,_ | 4,_=>exact TrE.of_eq (by simp[yK,setsE, *])
  | 5,_=>simpa[yK,setsE]using hd
 ·exact TrE.of_eq (by unfold setsE;simp[yK,e])
theorem zX2{n j m:Nat}{S:Nat->zu}{s:zu}{F:Nat->Nat->Tr}(h:s.id=(S j).id/\s.name=(S j).name/\s.set=(S j).set/\s.time=(S j).time/\s.rs=(S j).rs/\s.rb=(S j).rb)(hd:TrE (.s .o 2 m F) (.s .o 2 s.dn (ptrsT s.ds s.db))):TrE (.s .o 8 n (yK (yK (snapsE .z S) j 7 [.s .o 2 m F]) j 3 [.v (.int .i64 s.zcD)])) (.s .o 8 n (snapsE .z fun i=>if i=j then s else S i)):=by
 refine⟨.inl rfl,rfl,rfl,fun i c hi hc=>?_⟩;by_cases e:i=j
 ·subst e;obtain⟨h1,h2,h3,h4,h5,h6⟩:=h
  match c,hc with
  | 0,_ | 1,_ | 2,_ | 3,_ | 4,_ | 5,_ | 6,_=>exact TrE.of_eq (by simp[yK,snapsE, *])
  | 7,_=>
   simp[yK,snapsE];exact⟨.inr ⟨rfl,rfl⟩,hd.2⟩
 ·exact TrE.of_eq (by unfold snapsE;simp[yK,e])
theorem zaV{a b:Nat}(h:a<=1000000)(h':b<=1000000):IntKind.i64.wrap ((a:Int)+(b:Int))=((a+b:Nat):Int):=by
 simp[IntKind.wrap,IntKind.bits];omega
noncomputable def mSd:zW:=qZ (fun q:zC×Int=>[woT q.1,iT q.2]) (fun q=>qU q.1) (fun q=>[wuO (sdE q.1 q.2)])
theorem zas(W:zC)(x:Int):mSd [woT W,iT x]=some (qU W,[wuO (sdE W x)]):=zO (fun l=>(zC1 (nth l 0),qg (nth l 1 0))) (fun _=>rfl) (W,x)
theorem zLR:zw Tryz.prog 75 mSd:=by
 refine zQ zs (GOk.cons zBs (zE Tryz.func27 rfl rfl) (GOk.cons zA8 (zE Tryz.func32 rfl rfl) (GOk.cons zDI (zE Tryz.func68 rfl rfl) (GOk.cons zCc (zE Tryz.func84 rfl rfl) (GOk.cons zDM (zE Tryz.func98 rfl rfl) (GOk.cons zQo (zE Tryz.func105 rfl rfl) (GOk.cons zFM (zE Tryz.func106 rfl rfl) (GOk.ptr zWQ (zE Tryz.func107 rfl rfl) GOk.nil)))))))) zr Tryz.func75 rfl Tryz.ntmps75 Tryz.results75 17 ?_;rintro⟨W,x⟩ hW;replace hW:qU W:=hW;have hs:=hW.sn;have hp:=hW.pn;refine⟨by simp,?_⟩;by_cases hR:zB9 W;rotate_left
 ·simp[go_sem,zBC,zCI,yI,hW,hW.toSmallW,hs,hp,hR];exact yJ (if_neg hR)
 by_cases hH:zCO W x;rotate_left
 ·simp[go_sem,zBC,zCI,yI,hW,hW.toSmallW,hs,hp,zOF,zME,hR,hH];exact yJ ((if_pos hR).trans (if_neg hH))
 have hk:=zOE hH;have jA:=zME.2 hH;have bA:zH5 W x<W.pn:=by show(zBl W.pn fun k=>(W.zb9 k).id=x).toNat<W.pn;omega
 obtain⟨k,dA⟩:∃k,k=zH5 W x:=⟨_,rfl⟩;have eA:(zBl W.pn fun k=>(W.zb9 k).id=x)=(k:Int):=by rw[dA];show _=((zBl W.pn fun k=>(W.zb9 k).id=x).toNat:Int);omega
 have gA:¬(k:Int)<0:=by omega
 rw[<-dA]at bA;by_cases h1:1<zGY W x W.sn+zHE W x W.pn
 ·simp[go_sem,zBC,zCI,yI,zOS,hW,hW.toSmallW,hs,hp,eA,gA,hR,show(1:Int)<(zGY W x W.sn:Int)+(zHE W x W.pn:Int)by omega];exact yJ ((if_pos hR).trans ((if_pos hH).trans (if_pos h1)))
 have eR:sdE W x=sdK W x k:=by
  unfold sdE;rw[if_pos hR,if_pos hH,if_neg h1,<-dA]
 obtain⟨VP,VS,m,UP,US,l,run⟩:=za7 (k:=k) hW.sd hW.pd h1;rw[<-eR]at run;have hz:=zEc (fun k hk=>(hR.zcE.prevOk.ids k hk).1) (W.zb9 k).zcD;have iA:¬(1:Int)<(zGY W x W.sn:Int)+(zHE W x W.pn:Int):=by omega
 simp[go_sem,zBC,zCI,yI,zOS,yL,zDu,hW,hW.toSmallW,hs,hp,eA,gA,hR,iA,bA,hz];have q0:=run.v0;refine yE (fun j:Nat=>⟨[(11,true,.i j),(10,true,.i (m j)),(9,true,.i (zI W (W.zb9 k).zcD).time),(7,true,.m false [.p 7 0]),(6,true,.m false [.p 6 0]),(5,true,.i k),(4,true,.m false [.p 4 0]),(1,true,.i x)],[(7,.var [.v (.int .i64 (W.zb9 k).id),.v (.string (W.zb9 k).name),.v (.string (W.zb9 k).set),.v (.int .i64 (W.zb9 k).zcD),.v (.int .i64 (W.zb9 k).time),.v (.int .i64 (W.zb9 k).rs),.v (.int .i64 (W.zb9 k).rb),.s .z 2 (W.zb9 k).dn (ptrsT (W.zb9 k).ds (W.zb9 k).db)]),(6,.var [.h 61,.h 62,.v (.int .i64 W.time),.v (.int .i64 W.next),.h 63,.h 64]),(64,.row 8 W.pn (snapsE .z W.zb9)),(63,.row 6 W.sn (setsE .o (VS j))),(62,.row 1 (VP j).hn (qh (VP j).h)),(61,.row 3 (VP j).n (zU .z (VP j).s)),(4,.var [.v n0,.v n0,.v i0,.v i0,.v n0,.v n0,.v i0,.v i0,.v i0])]⟩) (fun j=>W.sn - j) (fun j=>j<=W.sn) 0 (by rw[q0.1,q0.2.1,q0.2.2];simp[go_sem]) (Nat.zero_le _) ?_;intro j hj;have hc:=run.cur j;simp[go_sem,qB (show j<=1000000000 by omega),hc];refine⟨fun hl=>⟨hl,?_⟩,fun hl=>?_⟩
 ·by_cases hx:(W.zcC j).zcD=x
  ·simp[go_sem,hx,hl,hc,qB (show j<=1000000000 by omega),zFq,zOR,zGu,zGX];obtain⟨e1,e2,e3,e4⟩:=run.yes j hl hx;have hd:=(zRP hR).1 j hl;have hy:(zAc (W.zcC j).ds (W.zcC j).db (zI W (W.zb9 k).zcD).time (W.zcC j).dn).length<=(W.zcC j).dn:=zBv ..;have ho:(zES (W.zcC j).ds (W.zcC j).db (zI W (W.zb9 k).zcD).time (W.zcC j).dn).length<=(W.zcC j).dn:=zHG ..;have hg:=(zRP hR).2 k bA;have hh:=zG2 hR.right;refine⟨by omega,⟨by omega,zWj zp ⟨by simp,fun p q _ _=>by unfold ptrsT;split<;>trivial⟩,zd⟩,by omega,by omega,by kernel_rfl,j+1,hl,by omega,⟨rfl,?_⟩,?_,?_,?_⟩
   ·rw[e3];exact zaV (run.vn j).2 (by omega)
   ·rw[e2,<-hc];refine zZQ (s:=zUR W (W.zb9 k) (VS j j)) ⟨rfl,rfl,rfl,rfl⟩ (zI6 rfl fun a b ha hb=>?_);unfold yU;split
    ·rfl
    ·match b,hb with
     | 0,_ | 1,_=>rfl
   ·rw[e1];exact TrE.refl _
   ·rw[e1,(zB0 _ _).1,(zB0 _ _).2.1];exact TrE.refl _
  ·obtain⟨e1,e2,e3⟩:=run.no j hl hx;simp[go_sem,hx,qB (show j<=1000000000 by omega)];exact⟨j+1,hl,by omega,⟨rfl,by rw[e3]⟩,by rw[e2];exact TrE.refl _,by rw[e1];exact TrE.refl _,by rw[e1];exact TrE.refl _⟩
 cases (show j=W.sn by omega);have q1:=run.u0;refine yE (fun i:Nat=>⟨[(14,true,.i i),(10,true,.i (l i)),(9,true,.i (zI W (W.zb9 k).zcD).time),(7,true,.m false [.p 7 0]),(6,true,.m false [.p 6 0]),(5,true,.i k),(4,true,.m false [.p 4 0]),(1,true,.i x)],[(7,.var [.v (.int .i64 (W.zb9 k).id),.v (.string (W.zb9 k).name),.v (.string (W.zb9 k).set),.v (.int .i64 (W.zb9 k).zcD),.v (.int .i64 (W.zb9 k).time),.v (.int .i64 (W.zb9 k).rs),.v (.int .i64 (W.zb9 k).rb),.s .z 2 (W.zb9 k).dn (ptrsT (W.zb9 k).ds (W.zb9 k).db)]),(6,.var [.h 61,.h 62,.v (.int .i64 W.time),.v (.int .i64 W.next),.h 63,.h 64]),(64,.row 8 W.pn (snapsE .z (US i))),(63,.row 6 W.sn (setsE .o (VS W.sn))),(62,.row 1 (UP i).hn (qh (UP i).h)),(61,.row 3 (UP i).n (zU .z (UP i).s)),(4,.var [.v n0,.v n0,.v i0,.v i0,.v n0,.v n0,.v i0,.v i0,.v i0])]⟩) (fun i=>W.pn - i) (fun i=>i<=W.pn) 0 (by rw[q1.1,q1.2.1,q1.2.2];simp[go_sem]) (Nat.zero_le _) ?_;intro i hi;have cA:=run.cur2 i;simp[go_sem,qB (show i<=1000000000 by omega),cA];refine⟨fun aA=>⟨aA,?_⟩,fun aA=>?_⟩
 ·by_cases hx:(W.zb9 i).zcD=x
  ·simp[go_sem,hx,aA,cA,qB (show i<=1000000000 by omega),zFq,zOR,zGu,zGX];obtain⟨e1,e2,e3,e4⟩:=run.yes2 i aA hx;have hd:=(zRP hR).2 i aA;have hy:(zAc (W.zb9 i).ds (W.zb9 i).db (zI W (W.zb9 k).zcD).time (W.zb9 i).dn).length<=(W.zb9 i).dn:=zBv ..;have ho:(zES (W.zb9 i).ds (W.zb9 i).db (zI W (W.zb9 k).zcD).time (W.zb9 i).dn).length<=(W.zb9 i).dn:=zHG ..;have hg:=(zRP hR).2 k bA;have hh:=zG2 hR.right;refine⟨by omega,⟨by omega,zp,zd⟩,by omega,by omega,by kernel_rfl,i+1,aA,by omega,⟨rfl,?_⟩,?_,?_,?_⟩
   ·rw[e3];exact zaV (run.un i).2 (by omega)
   ·rw[e2,<-cA];refine zX2 (s:=zPm W (W.zb9 k) (US i i)) ⟨rfl,rfl,rfl,rfl,rfl,rfl⟩ (zI6 rfl fun a b ha hb=>?_);unfold yU;split
    ·rfl
    ·match b,hb with
     | 0,_ | 1,_=>rfl
   ·rw[e1];exact TrE.refl _
   ·rw[e1,(zB0 _ _).1,(zB0 _ _).2.1];exact TrE.refl _
  ·obtain⟨e1,e2,e3⟩:=run.no2 i aA hx;simp[go_sem,hx,qB (show i<=1000000000 by omega)];exact⟨i+1,aA,by omega,⟨rfl,by rw[e3]⟩,by rw[e2];exact TrE.refl _,by rw[e1];exact TrE.refl _,by rw[e1];exact TrE.refl _⟩
 cases (show i=W.pn by omega);rw[run.fin,qB (show k<=1000000000 by omega)];refine⟨by omega,⟨by omega,by omega⟩,⟨by omega,by omega⟩,⟨by omega,by omega⟩,by kernel_rfl,⟨TrE.refl _,zR⟩,⟨TrE.refl _,zX⟩,rfl,rfl,⟨TrE.refl _,zp⟩,⟨?_,zd⟩,by simp⟩;refine⟨.inl rfl,rfl,by show k+(W.pn - (k+1))=W.pn - 1;omega,fun i c hi hc=>TrE.of_eq ?_⟩;show _=snapsE .z (del (US W.pn) k) i c;have e:∀p,(snapsE .z (US W.pn) p c).nt=snapsE .z (US W.pn) p c:=fun p=>by
  match c,hc with
  | 0,_ | 1,_ | 2,_ | 3,_ | 4,_ | 5,_ | 6,_ | 7,_=>rfl
 have e2:snapsE .z (del (US W.pn) k) i c=snapsE .z (US W.pn) (if i<k then i else i+1) c:=by
  have:del (US W.pn) k i=US W.pn (if i<k then i else i+1):=(by unfold del;split<;>rfl);unfold snapsE;rw[this]
 rw[e2];unfold yU;by_cases fA:i<k
 ·simp[fA,e]
 ·simp[fA,e,show k+1+(i - k)=i+1 by omega]
set_option maxRecDepth 20000
set_option maxHeartbeats 3200000
open Classical in
noncomputable def zLq(S:qC):zGq:=if zDF S then⟨⟨S.zcA,S.zcA⟩,0⟩else zAI 1
attribute [local go_sem] qW List.map_cons List.map_nil Tr.cv yo qG qw qv yn ym yk qu zAv zAx zAw zAs zAu zAt zCK zCM zCL qK zn qL zo qE qD qP yx zk zl yB qJ tmpsOf zAf yA qI zAr yu yq yp yr stpP opds opd opdC kap zAE qF zj coreU bin zAY zB6 get put dlO fgt zA6 zAz zA3 zA4 tyT yj yi Op.operands Call.operands evLoad evLen evStore evAlloc zAZ and_true true_and List.append_nil List.nil_append List.cons_append Ret resCv zBx yP cellM zBT zB3 qX StW StR hpT hpO hpV hpA hpL hpC sg nin zCD bdO tmW obW AvE CsE CvE Av.tup Av.ids Cv.ids inD ObE Ob.ids TrE.refl qH qx qy qM qN qO zm zb za yw zBd zCB zAy evCall argL argOf qj outOb obO yM zy cvO tot Tr.own rid partsOf fillC zT zBS frz frz1 evBuildSlice zc trs Cv.tr evSlice Option.toArray_none Option.toArray_some evMakeSlice evAppend dstOf srcOf zAq zA5 zA2 zA0 zA1 ikT qt qs qq qp RetP RetN zBe qR evLd evSt evStoreH zAP evAppendM evAppendT tlOf mvOf rowE shp evTake oOf evC evCallP evCallN evCallO unlast zAK zAp zAO argsF zCA qn pmC varT vT evField evConv dB0 Option.bind_some Option.bind_none Option.map_some Option.map_none Option.isSome_some Option.isSome_none
attribute [local go_sem] yF zY zAk yN qk zAS zAT zAU zAV zAW zAX yX yY yZ yb yd ye yf yg yG qe
attribute [-go_sem] zY
attribute [local go_sem] yV zBi zBj zAA yO
end Go.Proofs.YtbplmbafodlboaaGreatDoor
