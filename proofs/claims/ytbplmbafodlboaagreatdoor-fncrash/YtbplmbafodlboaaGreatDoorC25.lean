/- A part of the proof. -/
import Derived.Test.YtbplmbafodlboaaGreatDoorC24
import Derived.Shelf.Abstract
set_option linter.unusedVariables false
set_option maxRecDepth 20000
set_option maxHeartbeats 4000000
namespace Go.Proofs.YtbplmbafodlboaaGreatDoor
open Go.RowKit Go.Maps
theorem zDw{P:Program}{k:TypeId}{w w1:World}{M n g o:Nat}{D:DataW Value}{v:Value}(hg:w.grownBy w1 (some M))(hm:w.ownsMap P k zEu M n D)(h:w.cell? ⟨g,o,none⟩=some v):w1.cell? ⟨g,o,none⟩=some v:=by
 refine(hg.cell_far ⟨g,o,none⟩ (zH h) ?_).trans h;intro e;simp only[Option.some.injEq]at e;subst e;obtain⟨es,aA,hb,-⟩:=hm;simp[World.cell?,hb]at h
theorem zDz{w w1 w2:World}{row:Option Nat}(h:w.grownBy w1 row)(k:w1.grownBy w2 row):w.grownBy w2 row:=
 ⟨k.os.trans h.os,k.tape.trans h.tape,k.output.trans h.output,Nat.le_trans h.size k.size,fun i hi aA=>(k.block i (Nat.lt_of_lt_of_le hi h.size) aA).trans (h.block i hi aA)⟩
theorem zIN.side{P:Program}{kt:TypeId}{w w1:World}{M n lo hi:Nat}{D:DataW Value}{v:Value}{W:zB}{vd:Nat->Value}(h:zIN w lo hi v W vd)(hg:w.grownBy w1 (some M))(hm:w.ownsMap P kt zEu M n D)(i:Nat)(aA:i<memN W) :
  ∃g c,v = .slice (some ⟨g,0,none⟩) (memN W) c/\w1.cell? ⟨g,i*5,none⟩=some (.int .i64 (zK W i).zc2)/\w1.cell? ⟨g,i*5+1,none⟩=some (.int .i64 (zK W i).time)/\w1.cell? ⟨g,i*5+2,none⟩=some (.int .i64 (zK W i).rs)/\w1.cell? ⟨g,i*5+3,none⟩=some (.int .i64 (zK W i).rb)/\w1.cell? ⟨g,i*5+4,none⟩=some (vd i):=by
 obtain⟨g,c,e,h0,h1,h2,h3,h4⟩:=h.cells i aA;exact⟨g,c,e,zDw hg hm h0,zDw hg hm h1,zDw hg hm h2,zDw hg hm h3,zDw hg hm h4⟩
theorem zAM.side{w w1:World}{M b:Nat}{a0 a1 a2 a3 a4 a5:Value}(h:zAM w b a0 a1 a2 a3 a4 a5)(hg:w.grownBy w1 (some M))(aA:b≠M):zAM w1 b a0 a1 a2 a3 a4 a5:=by
 obtain⟨h0,h1,h2,h3,h4,h5⟩:=h;have hc:∀{o:Nat} {v:Value},zo w b o v->zo w1 b o v:=fun hc=>⟨(hg.cell_far _ (zH hc.1) (fun e=>aA (Option.some.inj e))).trans hc.1,(hg.frozen_far _ (zH hc.1) (fun e=>aA (Option.some.inj e))).trans hc.2⟩
 exact⟨hc h0,hc h1,hc h2,hc h3,hc h4,hc h5⟩
theorem zSg(v:Value)(s:zz)(w:World):(Instr.field 75 (zDr v s) 4).run Tryz.prog w = .ok (.int .i64 s.time) w:=by kernel_rfl
theorem zak:Go.WideMaps.KeyLaw Tryz.prog 70:=deep_law_laid zXZ (m:=5) (by decide) (zXb (by kernel_rfl)) (by kernel_rfl) (by kernel_rfl)
theorem zMJ:Tryz.prog.underlying 196=some (.map 70 2):=by kernel_rfl
theorem zZG(w:World):(zeroValue 2).run Tryz.prog w = .ok (.int .i64 0) w:=by kernel_rfl
theorem zNS{n:Int}(h0:-9223372036854775808<=n)(h1:n<9223372036854775808):IntKind.i64.wrap n=n:=by
 unfold IntKind.wrap;simp only[IntKind.signed,IntKind.bits,Bool.true_and];split
 ·rename_i hc
  have aA:=of_decide_eq_true hc;omega
 ·rename_i hc
  have aA:=of_decide_eq_false (Bool.eq_false_iff.2 hc);omega
theorem zSk{N n r h:Nat}(hr:r<=n)(hn:n<=200)(hh:h<=9223372036854775807):((N:Int) == IntKind.i64.wrap (IntKind.i64.wrap ((n:Int) - (r:Int)) - (h:Int)))=true↔N+r+h=n:=by
 have e1:IntKind.i64.wrap ((n:Int) - (r:Int))=(n:Int) - (r:Int):=zNS (by omega) (by omega);rw[e1];have e2:IntKind.i64.wrap ((n:Int) - (r:Int) - (h:Int))=(n:Int) - (r:Int) - (h:Int):=zNS (by omega) (by omega);rw[e2,beq_iff_eq];omega
theorem zJO{w:World}{b n:Nat}{D:DataW Value}{ky v:Value}{kl:Lit}(h:w.ownsMap Tryz.prog 70 zEu b n D)(aA:keyOf Tryz.prog 70 ky=some kl)(cA:D.atKey kl (.held (.int .i64 0)) = .held v):(Instr.lookup 196 (.map (some b)) ky false).run Tryz.prog w = .ok v w:=by
 obtain⟨v',ps,bA,hv⟩:=h.lookup zbe zMJ (zZG w) (zEL _) aA;have e1:=zHV hv;rw[cA]at e1;obtain rfl:=DataW.held.inj e1;exact bA
theorem zMI(v0 v1 v2 v3:Value)(lo hi:Nat)(W:zB)(A:Nat)(w:World)(h:zAF w lo hi v0 v1 v2 v3 W)(hs:W.sn<=8)(hp:W.pn<=20)(hA:zDY w lo hi W A)(hD:zFV W)(cE:zCM W)(hR:zq W.pool)(hT:zPC W)(tC:∀i,i<memN W->qT W.pool (zK W i).rs (zK W i).rb) :
  Calls Tryz.prog 121 #[zB8 v0 v1 v2 v3 W,zJw A] w fun e w'=>zL (zI1 W) e/\Below w.heap.size w w':=by
 obtain⟨key,hK⟩:=zVb hR tC;have HK:=zC hK;have Hp:=zC h;have HA:=zC hA;have HD:=zC hD;have oE:=zC cE;have HR:=zC hR;have gE:=zC hT;have iE:=zC tC;clear h hA hD cE hR hT tC hK;have ha:=zD w (.cells #[v0,v1,.int .i64 W.time,.int .i64 W.next,v2,v3] 30);have HB:=zC (zAM.new w v0 v1 (.int .i64 W.time) (.int .i64 W.next) v2 v3 30);have iD:(w.alloc (.cells #[v0,v1,.int .i64 W.time,.int .i64 W.next,v2,v3] 30)).heap.size=w.heap.size+1:=World.size_alloc _ _;have hm:=World.ownsMap_made (w.alloc (.cells #[v0,v1,.int .i64 W.time,.int .i64 W.next,v2,v3] 30)) Tryz.prog 70 zEu;rw[iD]at hm;have HM:=zC hm;have rB:=zC (HB.out.zcw (zD _ (.map #[] 0)));have sB:=zC (zA ha (zD _ (.map #[] 0)));have pF:=@run_makeMap Tryz.prog;obtain⟨x0,x2,x4,x6,x8,iF⟩:=rB.out.c;clear hm;go_enter Tryz.func121,Tryz.ntmps121;go_wp2_with fail;go_step3;go_wp2_with fail;go_step3;go_wp2_with fail;clear x0 x2 x4 x6 x8 iF ha HB;have sC:=zC (show((w.alloc (.cells #[v0,v1,.int .i64 W.time,.int .i64 W.next,v2,v3] 30)).alloc (.map #[] 0)).heap.size=w.heap.size+2 by rw[World.size_alloc,iD]);clear iD;generalize (w.alloc (.cells #[v0,v1,.int .i64 W.time,.int .i64 W.next,v2,v3] 30)).alloc (.map #[] 0)=W0 at HM rB sB sC ⊢;refine(zFv v0 v1 v2 v3 lo hi W W0 (Hp.out.zcw sB.out) hs hp).mono ?_;rintro e w1 ⟨vm,vd,rfl,hm,jB⟩;have kD:=zC hm;have lD:=zC (rB.out.zcw jB);have jD:=zC (HM.out.kept (zCx jB none) (by simp));have sE:=zA sB.out jB;have hz:w.heap.size+2<=w1.heap.size:=by have h1:=jB.size;have h2:=sC.out;omega
 obtain⟨am,cm,rfl,mF⟩:=id hm.zc4;have rF:memN W<=28:=by unfold memN;omega
 clear jB hm rB sB HM sC;go_wp2
 go_loopw [6,15] (fun s i wr=>∃k:Nat,k<=memN W/\s = .bool true/\i = .int .i64 k/\wr.ownsMap Tryz.prog 70 zEu (w.heap.size+1) (zu W k).length (zOI key (zu W k).length)/\zIy (zu W k).length key/\w1.grownBy wr (some (w.heap.size+1))/\Below w.heap.size w wr) (fun _ i _=>memN W - (intOf i).toNat)
 case atStart=>exact⟨0,Nat.zero_le _,rfl,rfl,jD.out,fun i hi=>absurd hi (Nat.not_lt_zero _),World.grownBy.refl _ _,sE⟩
 case round=>
  obtain⟨k,hk,rfl,rfl,lA,tA,lB,hb⟩:=hrel;have bA:=zC lA;have gA:=zC tA;have fA:=zC lB;clear lA tA lB;by_cases nB:k<memN W;rotate_left
  ·obtain rfl:k=memN W:=(by omega);obtain⟨⟨m0,a0,c0,rfl,bG,-⟩,⟨m1,a1,c1,rfl,cG,-⟩⟩:=id Hp.out.pool;have gD:=HK.out.size gA.out;have tD:=(bA.out.kept (zCx ((Below.refl _ _).drew) none) (by simp)).len zMJ 3;rw[gD]at tD;have nE:=zC gD;clear gD;have vA:=zJf W.pool.s W.pool.n;have iB:=HR.out.1;unfold maxLen at m0 m1;have mA:=zC (lD.out.side fA.out (by omega));obtain⟨x0,x1,x2,x3,x4,x5⟩:=mA.out.c;have eE:=zC (HK.out.dist.1 gA.out);have fF:zUy W.pool=(roomN W.pool.s W.pool.n:Int):=if_pos HR.out;generalize hN:(zu W (memN W)).length=N at *;have HN:=zC hN;clear hN;go_wp2_with fail;go_region_held3 (fun w'=>w'.cell? ⟨w.heap.size,0,none⟩=some (.slice a0 W.pool.n c0)/\w'.cell? ⟨w.heap.size,1,none⟩=some (.slice a1 W.pool.hn c1)/\(Builtin.len_ #[196] 3 #[.map (some (w.heap.size+1))]).run Tryz.prog w' = .ok (.int .i64 (N:Nat)) w') (go_keep)
    (first
     | (go_at_call 151;refine(zJ0 _ _ lo hi W.pool _ ((Hp.out.zcw hb).pool.zcw (Below.refl _ _).drew)).mono ?_;rintro e w5 ⟨rfl,bC⟩;have rA:=qU bC;obtain⟨⟨k0,_⟩,⟨k1,_⟩,_⟩:=mA.out.zcw rA;have sD:=(bA.out.kept (zCx rA none) (by simp)).len zMJ 3;rw[nE.out]at sD))
   have oB:=zSk (N:=N) vA iB (by omega:W.pool.hn<=9223372036854775807);have oC:=zC oB;have tE:=zA hb rA;clear oB tD sD fF vA iB;go_wp2
   try rw[Exit.noGoto_ret]
   go_ret;refine⟨⟨_,rfl,?_⟩,tE⟩;rw[oC.out];unfold zI1;rw[HN.out];exact⟨fun hx=>⟨eE.out,hx⟩,fun hx=>hx.2⟩
  have dF:(k:Int)<(memN W:Int):=(by omega);obtain⟨g,cg,e,q0,q1,q2,q3,q4⟩:=kD.out.side fA.out jD.out k nB;obtain⟨-,ad,cd,bE,-,-⟩:=id (kD.out.dead k nB);rw[bE]at q4;cases e;have nA:=zD wr (.cells #[.int .i64 (zK W k).zc2,.int .i64 (zK W k).time,.int .i64 (zK W k).rs,.int .i64 (zK W k).rb,.slice ad (zK W k).dn cd] 193);have HV:=zC (zG0.new wr (.int .i64 (zK W k).zc2) (.int .i64 (zK W k).time) (.int .i64 (zK W k).rs) (.int .i64 (zK W k).rb) (.slice ad (zK W k).dn cd) 193);have mA:=zC ((lD.out.side fA.out (by omega)).zcw nA);have aC:=zA hb nA;have iA:=zC (bA.out.kept (zCx nA none) (by simp));have pA:=zC (zDz fA.out (zCx nA (some (w.heap.size+1))));have fC:=zC (HA.out.zcw aC);have nC:=zC (Hp.out.zcw aC);have pE:=zC (oE.out k nB);have jC:=zC (iE.out k nB);have pC:=zC (gE.out (zK W k).zc2);have rC:=zC (show zBS W (zK W k)=zCa (zN W.pool (zK W k).rs (zK W k).rb) (zI W (zK W k).zc2).time from rfl);have fB:=zC (show(zu W (k+1)).length=(zu W k).length+(zBS W (zK W k)).length from List.length_append);have jE:=zC (fun (j:Nat) (hj:j<(zBS W (zK W k)).length)=>zXE W (k:=k) (n:=memN W) nB hj);have rE:=zC (zNV W (zK W k));have lE:=zC (zOK W k);clear bE nA fA bA;generalize zK W k=mk at *;go_wp2_with fail;clear q0 q1 q2 q3 q4;have aB:=zC (show w.heap.size+2<=(wr.alloc (.cells #[.int .i64 mk.zc2,.int .i64 mk.time,.int .i64 mk.rs,.int .i64 mk.rb,.slice ad mk.dn cd] 193)).heap.size from Nat.le_trans hz pA.out.size);generalize wr.alloc (.cells #[.int .i64 mk.zc2,.int .i64 mk.time,.int .i64 mk.rs,.int .i64 mk.rb,.slice ad mk.dn cd] 193)=W2 at HV mA fC nC aC iA pA aB ⊢;generalize wr.heap.size=V at HV ⊢;obtain⟨⟨y0,-⟩,⟨y1,-⟩,⟨y2,-⟩,⟨y3,-⟩,⟨y4,-⟩⟩:=HV.out;obtain⟨x0,x1,x2,x3,x4,x5⟩:=mA.out.c;have gF:=yz W.pool mk.rs mk.rb;have iC:=zC (show zAD (zN W.pool mk.rs mk.rb).length (qP (zN W.pool mk.rs mk.rb)) (qb (zN W.pool mk.rs mk.rb))from zDX HR.out (fun x hx=>(zCD HR.out jC.out hx).1) (zC5 HR.out jC.out) (by omega));have vE:=zGa;have aF:=zSg;generalize nD:zI W mk.zc2=S at pC rC ⊢;have dE:=zC nD;clear nD;generalize oD:zN W.pool mk.rs mk.rb=tree at iC gF rC ⊢;have fE:=zC oD;clear oD;go_region_held3 (fun w'=>w'.cell? ⟨w.heap.size,0,none⟩=some v0/\w'.cell? ⟨w.heap.size,1,none⟩=some v1/\w'.cell? ⟨w.heap.size,2,none⟩=some (.int .i64 W.time)/\w'.cell? ⟨w.heap.size,3,none⟩=some (.int .i64 W.next)/\w'.cell? ⟨w.heap.size,4,none⟩=some v2/\w'.cell? ⟨w.heap.size,5,none⟩=some v3/\w'.cell? ⟨V,0,none⟩=some (.int .i64 mk.zc2)/\w'.cell? ⟨V,2,none⟩=some (.int .i64 mk.rs)/\w'.cell? ⟨V,3,none⟩=some (.int .i64 mk.rb)) (go_keep)
   (first
    | (go_at_call 150;refine(zEB v0 v1 v2 v3 lo hi W mk.rs mk.rb _ ?_ HR.out jC.out).mono ?_;(exact nC.out.zcw (Below.refl _ _).drew);rintro e w5 ⟨vt,rfl,eC,bC⟩;rw[fE.out]at eC;obtain⟨kF,lF,rfl,-⟩:=qj eC;have rA:=qU bC;obtain⟨⟨k0,_⟩,⟨k1,_⟩,⟨k2,_⟩,⟨k3,_⟩,⟨k4,_⟩,⟨k5,_⟩⟩:=mA.out.zcw rA;obtain⟨⟨l0,_⟩,_,⟨l2,_⟩,⟨l3,_⟩,_⟩:=HV.out.zcw rA)
    | (go_at_call 144;refine(zEy lo hi W A mk.zc2 _ (fC.out.zcw rA) HD.out pE.out hp).mono ?_;rintro e w6 ⟨aa,ca,rfl,eF,vC⟩;rw[dE.out];have vB:=zA rA vC;obtain⟨⟨f0,_⟩,⟨f1,_⟩,⟨f2,_⟩,⟨f3,_⟩,⟨f4,_⟩,⟨f5,_⟩⟩:=mA.out.zcw vB;obtain⟨⟨g0,_⟩,_,⟨g2,_⟩,⟨g3,_⟩,_⟩:=HV.out.zcw vB)
    | (go_at_call 149;refine(zEK _ tree.length 0 _ (qP tree) (qb tree) S.time _ ((eC.zcw vC).atW (by omega))).mono ?_;rintro e w7 ⟨vy,vz,ly,lz,rfl,hY,-,hy,-,-,pD⟩;rw[(hY.1 ⟨iC.out,pC.out⟩).trans (zJo tree S.time)]at hy;rw[<-rC.out]at hy;obtain⟨ay,cy,rfl,nF⟩:=qj hy;have sA:=zA vB pD;obtain⟨⟨m0,_⟩,⟨m1,_⟩,⟨m2,_⟩,⟨m3,_⟩,⟨m4,_⟩,⟨m5,_⟩⟩:=mA.out.zcw sA;obtain⟨⟨n0,_⟩,_,⟨n2,_⟩,⟨n3,_⟩,_⟩:=HV.out.zcw sA))
  have HY:=zC hy;have jA:=zC (iA.out.kept (zCx sA none) (by simp));have kC:=zC (zDz pA.out (zCx sA (some (w.heap.size+1))));have jF:=zC (mA.out.zcw sA);have bB:=zA aC sA;have aG:w.heap.size+2<=w7.heap.size:=Nat.le_trans aB.out sA.size;have vF:=rE.out;have oF:=lE.out;clear hy sA pD vB vC rA bC eC eF hY mA HV fC nC iA pA aB iC pC vE aF x0 x1 x2 x3 x4 x5 y0 y1 y2 y3 y4 k0 k1 k2 k3 k4 k5 l0 l2 l3 f0 f1 f2 f3 f4 f5 g0 g2 g3 m0 m1 m2 m3 m4 m5 n0 n2 n3;generalize tF:zBS W mk=yl at *;go_wp2_with fail
  go_loopw [6,31] (fun s i wr=>∃j:Nat,j<=yl.length/\s = .bool true/\i = .int .i64 j/\wr.ownsMap Tryz.prog 70 zEu (w.heap.size+1) ((zu W k).length+j) (zOI key ((zu W k).length+j))/\zIy ((zu W k).length+j) key/\w7.grownBy wr (some (w.heap.size+1))/\Below w.heap.size w wr) (fun _ i _=>yl.length - (intOf i).toNat)
  case atStart=>exact⟨0,Nat.zero_le _,rfl,rfl,jA.out,gA.out,World.grownBy.refl _ _,bB⟩
  case round=>
   clear bB;obtain⟨j,hj,rfl,rfl,lA,rD,lB,bB⟩:=hrel;have bA:=zC lA;have tB:=zC rD;have fA:=zC lB;clear lA rD lB;by_cases cD:j<yl.length;rotate_left
   ·obtain rfl:j=yl.length:=(by omega);go_wp2;go_roundw
    case rel=>
     refine⟨k+1,by omega,rfl,by go_num,?_,?_,zDz kC.out fA.out,bB⟩
     ·rw[fB.out];exact bA.out
     ·rw[fB.out];exact tB.out
    case measure=>simp[intOf];omega
   have bF:(j:Int)<(yl.length:Int):=(by omega);obtain⟨-,a7,c7,e7,-,kB⟩:=id (HY.out.atW (by omega));cases e7;obtain⟨b7,o7,rfl,-,-,kB⟩:=kB (by omega);have q0:=zDw fA.out jA.out (kB j cD).1;have q1:=zDw fA.out jA.out (kB j cD).2;clear kB;obtain⟨fD,vD⟩:=jE.out j cD;have mB:keyOf Tryz.prog 70 (.agg #[.int .i64 (qP yl j),.int .i64 (qb yl j)])=some (key ((zu W k).length+j)):=by
    have:=HK.out.at_ _ fD;rw[vD]at this;exact this
   have mE:=zC fD;have dA:=zC mB;clear vD fD mB;have nA:=zD wr (.cells #[.int .i64 (qP yl j),.int .i64 (qb yl j)] 70);have HV:=zC (zAZ.new wr (.int .i64 (qP yl j)) (.int .i64 (qb yl j)) 70);have cA:=zC ((bA.out.kept (zCx nA none) (by simp)).kept (zCx ((Below.refl _ _).drew) none) (by simp));have eB:=zC (zDz fA.out (zCx nA (some (w.heap.size+1))));have cB:=zA bB nA;have kA:=zC (show w.heap.size+1<wr.heap.size by have:=fA.out.size;omega);clear nA fA bA;have sF:(zu W k).length+j<=3000:=(by omega);generalize aE:(zu W k).length+j=p at *;have mD:=zC aE;clear aE;generalize qP yl j=xs at *;generalize qb yl j=xb at *;go_wp2_with fail;clear q0 q1;generalize wr.alloc (.cells #[.int .i64 xs,.int .i64 xb] 70)=W3 at HV cA eB cB ⊢;generalize wr.heap.size=V at HV kA ⊢;by_cases eA:∀i,i<p->key i≠key p
   ·have dD:=zJO cA.out dA.out (HK.out.new eA);obtain⟨ev,st,wa,wb,he,eD,pB,aA,bD,oA⟩:=zOA cA.out zak zMJ (by unfold maxLen;omega) zZG dA.out (HK.out.new eA) (val:=.int .i64 1);obtain⟨⟨y0,-⟩,⟨y1,-⟩⟩:=HV.out.zcw ((Below.refl _ _).drew);have z0:=(oA.cell_far _ (zH y0) (fun e=>by have h1:=Option.some.inj e;have h2:=kA.out;simp only at h1;omega)).trans y0;have z1:=(oA.cell_far _ (zH y1) (fun e=>by have h1:=Option.some.inj e;have h2:=kA.out;simp only at h1;omega)).trans y1;have cF:=zJO aA dA.out (HK.out.put p _);have gB:=zC aA;have kE:=zC (zDz (zDz eB.out (zCx ((Below.refl _ _).drew) (some (w.heap.size+1)))) oA);have aD:=cB.drew.grown oA (Nat.le_trans cB.size (Nat.le_refl _)) (fun q e=>by cases e;omega);have lC:=zC eA;clear aA bD oA eA cB bB;unfold goInt at he pB;go_region;clear dD eD he pB y0 y1;go_wp2;go_roundw
    case rel=>exact⟨j+1,by omega,rfl,by go_num,by rw[show(zu W k).length+(j+1)=p+1 by have:=mD.out;omega];exact gB.out,by rw[show(zu W k).length+(j+1)=p+1 by have:=mD.out;omega];exact zIX.2 ⟨tB.out,lC.out⟩,kE.out,aD⟩
    case measure=>simp[intOf];omega
   ·obtain⟨i0,dC,cC⟩:∃i,i<p/\key i=key p:=by
     by_cases hx:∃i,i<p/\key i=key p
     ·exact hx
     ·exact absurd (fun i hi e=>hx ⟨i,hi,e⟩) eA
    have mC:=zC (HK.out.not_nodup dC mE.out cC);have dD:=zJO cA.out dA.out (HK.out.old dC cC tB.out);obtain⟨ev,st,wa,wb,he,eD,pB,aA,bD,oA⟩:=zOA cA.out zak zMJ (by unfold maxLen;omega) zZG dA.out (HK.out.old dC cC tB.out) (val:=.int .i64 2);obtain⟨⟨y0,-⟩,⟨y1,-⟩⟩:=HV.out.zcw ((Below.refl _ _).drew);have z0:=(oA.cell_far _ (zH y0) (fun e=>by have h1:=Option.some.inj e;have h2:=kA.out;simp only at h1;omega)).trans y0;have z1:=(oA.cell_far _ (zH y1) (fun e=>by have h1:=Option.some.inj e;have h2:=kA.out;simp only at h1;omega)).trans y1;have cF:=zJO aA dA.out (HK.out.put p _);have aD:=cB.drew.grown oA (Nat.le_trans cB.size (Nat.le_refl _)) (fun q e=>by cases e;omega);clear aA bD oA eA cB bB dC cC;unfold goInt at he pB;go_region;clear dD eD he pB y0 y1;go_wp2_with fail;go_region;go_wp2;rw[Exit.noGoto_ret];go_ret;exact⟨zL.no fun hx=>mC.out hx.1,aD.drew⟩
theorem zIe(v0 v1 v2 v3:Value)(lo hi:Nat)(W:zB)(w:World)(h:zAF w lo hi v0 v1 v2 v3 W)(aB:zCM W) :
  Calls Tryz.prog 91 #[zB8 v0 v1 v2 v3 W] w fun e w'=>zL (zFX W) e/\Below w.heap.size w w':=by
 have Hp:=zC h;have cA:=zC aB;clear h aB;have ha:=zD w (.cells #[v0,v1,.int .i64 W.time,.int .i64 W.next,v2,v3] 30);have HB:=zC (zAM.new w v0 v1 (.int .i64 W.time) (.int .i64 W.next) v2 v3 30);obtain⟨x0,x1,x2,x3,x4,x5⟩:=HB.out.c;go_enter Tryz.func91,Tryz.ntmps91;go_wp2_with fail;generalize w.alloc (.cells #[v0,v1,.int .i64 W.time,.int .i64 W.next,v2,v3] 30)=W0 at ha HB x0 x1 x2 x3 x4 x5 ⊢;refine(zHA W.time W0).mono ?_;rintro e w1 ⟨⟨t1,rfl,bA⟩,rfl⟩;have aA:=zC bA;clear bA;cases t1
 ·have Hn:=zC (show ¬zFX W from fun hI=>absurd (aA.out.2 hI.zc3.time) (by simp));clear aA;go_wp2;go_ret;exact⟨zL.no Hn.out,ha⟩
 have H1:=zC (aA.out.1 rfl);clear aA;go_wp2_with fail;refine(zHA W.next _).mono ?_;rintro e w1 ⟨⟨t1,rfl,bA⟩,rfl⟩;have aA:=zC bA;clear bA;cases t1
 ·have Hn:=zC (show ¬zFX W from fun hI=>absurd (aA.out.2 hI.zc3.next) (by simp));clear aA;go_wp2;go_ret;exact⟨zL.no Hn.out,ha⟩
 have H2:=zC (aA.out.1 rfl);clear aA;go_wp2_with fail;refine(zNp v2 W.sn lo hi W.zc1 _ (Hp.out.zcw ha).zc1).mono ?_;rintro e w2 ⟨⟨t1,rfl,bA⟩,hc⟩;have aA:=zC bA;have dA:=zA ha hc;have nA:=zC (HB.out.zcw hc);clear bA hc x0 x1 x2 x3 x4 x5;obtain⟨x0,x1,x2,x3,x4,x5⟩:=nA.out.c;cases t1
 ·have Hn:=zC (show ¬zFX W from fun hI=>absurd (aA.out.2 hI.zc3.zc1) (by simp));clear aA;go_wp2;go_ret;exact⟨zL.no Hn.out,dA⟩
 have H3:=zC (aA.out.1 rfl);clear aA;have hs:=H3.out.1;go_wp2_with fail;refine(zNI v0 v1 v2 v3 lo hi W _ (Hp.out.zcw dA) hs).mono ?_;rintro e w3 ⟨⟨t1,rfl,bA⟩,hc⟩;have aA:=zC bA;have eA:=zA dA hc;have oA:=zC (nA.out.zcw hc);clear bA hc x0 x1 x2 x3 x4 x5;obtain⟨x0,x1,x2,x3,x4,x5⟩:=oA.out.c;cases t1
 ·have Hn:=zC (show ¬zFX W from fun hI=>absurd (aA.out.2 hI.zc3.zcy) (by simp));clear aA;go_wp2;go_ret;exact⟨zL.no Hn.out,eA⟩
 have H4:=zC (aA.out.1 rfl);clear aA;have hp:=H4.out.1;have HN:=zC (show zFW W from⟨H1.out,H2.out,H3.out,H4.out⟩);go_wp2_with fail;refine(zDi v0 v1 lo hi W.pool _ (Hp.out.zcw eA).pool).mono ?_;rintro e w4 ⟨⟨t1,rfl,bA⟩,hc⟩;have aA:=zC bA;have fA:=zA eA hc;have pA:=zC (oA.out.zcw hc);clear bA hc x0 x1 x2 x3 x4 x5;obtain⟨x0,x1,x2,x3,x4,x5⟩:=pA.out.c;cases t1
 ·have Hn:=zC (show ¬zFX W from fun hI=>absurd (aA.out.2 hI.right) (by simp));clear aA;go_wp2;go_ret;exact⟨zL.no Hn.out,fA⟩
 have H5:=zC (aA.out.1 rfl);clear aA;go_wp2_with fail;refine(zQR v0 v1 v2 v3 lo hi W _ (Hp.out.zcw fA) hp HN.out.idsWf).mono ?_;rintro e w5 ⟨A,rfl,hA,hc⟩;have kA:=zC hA;have vA:=zA fA hc;have rA:=zC (pA.out.zcw hc);clear hA hc x0 x1 x2 x3 x4 x5;obtain⟨x0,x1,x2,x3,x4,x5⟩:=rA.out.c;go_wp2_with fail;refine(zM6 v0 v1 v2 v3 lo hi W A _ (Hp.out.zcw vA) hs hp kA.out HN.out.dist cA.out).mono ?_;rintro e w6 ⟨⟨t1,rfl,bA⟩,hc⟩;have aA:=zC bA;have gA:=zA vA hc;have sA:=zC (rA.out.zcw hc);have lA:=zC (kA.out.zcw hc);clear bA hc x0 x1 x2 x3 x4 x5;obtain⟨x0,x1,x2,x3,x4,x5⟩:=sA.out.c;cases t1
 ·have Hn:=zC (show ¬zFX W from fun hI=>absurd (aA.out.2 hI.prevs) (by simp));clear aA;go_wp2;go_ret;exact⟨zL.no Hn.out,gA⟩
 have H7:=zC (aA.out.1 rfl);clear aA;go_wp2_with fail;refine(zMd v0 v1 v2 v3 lo hi W A _ (Hp.out.zcw gA) hp hs lA.out HN.out.dist (HN.out.prevOk H7.out)).mono ?_;rintro e w7 ⟨⟨t1,rfl,bA⟩,hc⟩;have aA:=zC bA;have iA:=zA gA hc;have tA:=zC (sA.out.zcw hc);have mA:=zC (lA.out.zcw hc);clear bA hc x0 x1 x2 x3 x4 x5;obtain⟨x0,x1,x2,x3,x4,x5⟩:=tA.out.c;cases t1
 ·have Hn:=zC (show ¬zFX W from fun hI=>absurd (aA.out.2 hI.lines) (by simp));clear aA;go_wp2;go_ret;exact⟨zL.no Hn.out,iA⟩
 have H8:=zC (aA.out.1 rfl);clear aA;go_wp2_with fail;refine(zNP v0 v1 v2 v3 lo hi W A _ (Hp.out.zcw iA) hs hp mA.out HN.out.dist cA.out H5.out HN.out.times).mono ?_;rintro e w8 ⟨⟨t1,rfl,bA⟩,hc⟩;have aA:=zC bA;have jA:=zA iA hc;have cB:=zC (tA.out.zcw hc);have bB:=zC (mA.out.zcw hc);clear bA hc x0 x1 x2 x3 x4 x5;obtain⟨x0,x1,x2,x3,x4,x5⟩:=cB.out.c;cases t1
 ·have Hn:=zC (show ¬zFX W from fun hI=>absurd (aA.out.2 hI.trees) (by simp));clear aA;go_wp2;go_ret;exact⟨zL.no Hn.out,jA⟩
 have H9:=zC (aA.out.1 rfl);clear aA;go_wp2_with fail;refine(zMI v0 v1 v2 v3 lo hi W A _ (Hp.out.zcw jA) hs hp bB.out HN.out.dist cA.out H5.out HN.out.times H9.out.1).mono ?_;rintro e w9 ⟨⟨t1,rfl,bA⟩,hc⟩;have aA:=zC bA;have eB:=zA jA hc;clear bA hc;have Hn:=zC (show t1=true↔zFX W from⟨fun e=>⟨HN.out,H5.out,H7.out,H8.out,H9.out,aA.out.1 e⟩,fun hI=>aA.out.2 hI.homes⟩);clear aA;go_wp2;go_ret;exact⟨⟨t1,rfl,Hn.out⟩,eB⟩
theorem zEJ(a:Option Addr)(n c:Nat)(xs:List Value)(w:World)(hl:xs.length=n*6)(iA:∀u∈xs,u.oneCell'=true)(hn:n<=1048576)
  (hc:0<n->∃b off,a=some ⟨b,off,none⟩/\∀j u,xs[j]?=some u->w.cell? ⟨b,off+j,none⟩=some u) :
  Calls Tryz.prog 134 #[.slice a n c] w fun e w'=>∃v',e = .returned v'/\w'.ownsRow w.heap.size 72 6 v' n xs/\Below w.heap.size w w'/\(n=0->∃a,v' = .slice a 0 0):=by
 have Hc:Hid (0<n->∃b off,a=some ⟨b,off,none⟩/\∀j u,xs[j]?=some u->w.cell? ⟨b,off+j,none⟩=some u):=hc;have Hl:Hid (xs.length=n*6/\∀u∈xs,u.oneCell'=true):=⟨hl,iA⟩;clear hc hl iA;have pA:=fun w=>Lib.run_eql_slice_nil (P:=Tryz.prog) w 27 72 a n c 0 0 (by kernel_rfl)
 cases a with
 | none=>
  have nA:n=0:=by
   by_cases h:0<n
   ·obtain⟨b,off,ha,_⟩:=Hc.out h;simp at ha
   ·omega
  subst nA;have oA:xs = []:=List.eq_nil_of_length_eq_zero (by simpa using Hl.out.1);subst oA;go_enter Tryz.func134,Tryz.ntmps134;go_wp2;go_ret;exact⟨_,rfl,World.ownsRow_nil _ _ _ _,Below.refl _ _,fun _=>⟨_,rfl⟩⟩
 | some ad=>
  obtain⟨i0,hi,lA⟩:=Option.map_eq_some_iff.1 zQy;simp only[Prod.mk.injEq]at lA;obtain⟨hz,hs,kA⟩:=lA;have HI:Hid (Tryz.prog.info? 72=some i0/\i0.zero=some (.agg #[.string ⟨#[]⟩,.int .i64 0,.int .i64 0,.int .i64 0,.int .i64 0,.slice none 0 0])/\i0.size=6/\i0.bytes=72):=⟨hi,hz,hs,kA⟩;have aA:Hid ((w.alloc (.cells #[] 72)).ownsRow w.heap.size 72 6 (.slice (some ⟨w.heap.size,0,none⟩) 0 0) 0 []):=World.ownsRow_made w #[] 0 (Nat.le_refl _) (Nat.zero_le _) (by simp);clear hi hz hs kA;go_enter Tryz.func134,Tryz.ntmps134;go_wp2_with (first
   | (at_builtin;refine zBP rfl _ _ 27 rfl w.heap.size 72 i0 (.agg #[.string ⟨#[]⟩,.int .i64 0,.int .i64 0,.int .i64 0,.int .i64 0,.slice none 0 0]) 6 72 (by kernel_rfl) HI.out.1 HI.out.2.1 HI.out.2.2.1 HI.out.2.2.2 rfl (by decide) _ _ _ rfl aA.out (some ad) n c xs rfl Hl.out.1 Hl.out.2 ?c1 ?c3 ?c4 ?c5 ?_))
  case c1=>
   intro h0;obtain⟨b,off,ha,bA⟩:=Hc.out h0;exact⟨b,off,ha,fun j u hj=>(((Below.refl _ _).alloc (Nat.le_refl _) _).cell (zH (bA j u hj))).trans (bA j u hj)⟩
  case c3=>unfold maxLen;omega
  case c4=>omega
  case c5=>simp
  intro v' w1 dA cA gA;have mA:Below w.heap.size w w1:=((Below.refl _ _).alloc (Nat.le_refl _) _).grown cA (by simp) (fun q hq=>by have:=aA.out.lt q hq;omega);have eA:w1.ownsRow w.heap.size 72 6 v' n xs:=(by simpa using dA);have fA:Hid (w1.ownsRow w.heap.size 72 6 v' n xs):=eA;have jA:Hid (n=0->v' = .slice (some ⟨w.heap.size,0,none⟩) 0 0):=gA;clear dA eA cA gA;go_wp2;go_ret;exact⟨v',rfl,fA.out,mA,fun e=>⟨_,jA.out e⟩⟩
theorem zCv(a:Option Addr)(n c:Nat)(xs:List Value)(w:World)(hl:xs.length=n*8)(iA:∀u∈xs,u.oneCell'=true)(hn:n<=1048576)
  (hc:0<n->∃b off,a=some ⟨b,off,none⟩/\∀j u,xs[j]?=some u->w.cell? ⟨b,off+j,none⟩=some u) :
  Calls Tryz.prog 135 #[.slice a n c] w fun e w'=>∃v',e = .returned v'/\w'.ownsRow w.heap.size 75 8 v' n xs/\Below w.heap.size w w'/\(n=0->∃a,v' = .slice a 0 0):=by
 have Hc:Hid (0<n->∃b off,a=some ⟨b,off,none⟩/\∀j u,xs[j]?=some u->w.cell? ⟨b,off+j,none⟩=some u):=hc;have Hl:Hid (xs.length=n*8/\∀u∈xs,u.oneCell'=true):=⟨hl,iA⟩;clear hc hl iA;have pA:=fun w=>Lib.run_eql_slice_nil (P:=Tryz.prog) w 28 75 a n c 0 0 (by kernel_rfl)
 cases a with
 | none=>
  have nA:n=0:=by
   by_cases h:0<n
   ·obtain⟨b,off,ha,_⟩:=Hc.out h;simp at ha
   ·omega
  subst nA;have oA:xs = []:=List.eq_nil_of_length_eq_zero (by simpa using Hl.out.1);subst oA;go_enter Tryz.func135,Tryz.ntmps135;go_wp2;go_ret;exact⟨_,rfl,World.ownsRow_nil _ _ _ _,Below.refl _ _,fun _=>⟨_,rfl⟩⟩
 | some ad=>
  obtain⟨i0,hi,lA⟩:=Option.map_eq_some_iff.1 zOO;simp only[Prod.mk.injEq]at lA;obtain⟨hz,hs,kA⟩:=lA;have HI:Hid (Tryz.prog.info? 75=some i0/\i0.zero=some (.agg #[.int .i64 0,.string ⟨#[]⟩,.string ⟨#[]⟩,.int .i64 0,.int .i64 0,.int .i64 0,.int .i64 0,.slice none 0 0])/\i0.size=8/\i0.bytes=96):=⟨hi,hz,hs,kA⟩;have aA:Hid ((w.alloc (.cells #[] 75)).ownsRow w.heap.size 75 8 (.slice (some ⟨w.heap.size,0,none⟩) 0 0) 0 []):=World.ownsRow_made w #[] 0 (Nat.le_refl _) (Nat.zero_le _) (by simp);clear hi hz hs kA;go_enter Tryz.func135,Tryz.ntmps135;go_wp2_with (first
   | (at_builtin;refine zBP rfl _ _ 28 rfl w.heap.size 75 i0 (.agg #[.int .i64 0,.string ⟨#[]⟩,.string ⟨#[]⟩,.int .i64 0,.int .i64 0,.int .i64 0,.int .i64 0,.slice none 0 0]) 8 96 (by kernel_rfl) HI.out.1 HI.out.2.1 HI.out.2.2.1 HI.out.2.2.2 rfl (by decide) _ _ _ rfl aA.out (some ad) n c xs rfl Hl.out.1 Hl.out.2 ?c1 ?c3 ?c4 ?c5 ?_))
  case c1=>
   intro h0;obtain⟨b,off,ha,bA⟩:=Hc.out h0;exact⟨b,off,ha,fun j u hj=>(((Below.refl _ _).alloc (Nat.le_refl _) _).cell (zH (bA j u hj))).trans (bA j u hj)⟩
  case c3=>unfold maxLen;omega
  case c4=>omega
  case c5=>simp
  intro v' w1 dA cA gA;have mA:Below w.heap.size w w1:=((Below.refl _ _).alloc (Nat.le_refl _) _).grown cA (by simp) (fun q hq=>by have:=aA.out.lt q hq;omega);have eA:w1.ownsRow w.heap.size 75 8 v' n xs:=(by simpa using dA);have fA:Hid (w1.ownsRow w.heap.size 75 8 v' n xs):=eA;have jA:Hid (n=0->v' = .slice (some ⟨w.heap.size,0,none⟩) 0 0):=gA;clear dA eA cA gA;go_wp2;go_ret;exact⟨v',rfl,fA.out,mA,fun e=>⟨_,jA.out e⟩⟩
def del{α : Type}(f:Nat->α)(k:Nat):Nat->α:=fun i=>if i<k then f i else f (i+1)
def zWk(W:zB)(x:Int)(i:Nat):Prop:=i<W.pn/\(W.zcy i).zc2=x/\(∀j,j<W.pn->j≠i->(W.zcy j).zc2≠x)/\∀j,j<W.sn->(W.zc1 j).zc2≠x
def zWl(W:zB)(x:Int)(i:Nat):Prop:=i<W.sn/\(W.zc1 i).zc2=x/\(∀j,j<W.sn->j≠i->(W.zc1 j).zc2≠x)/\∀j,j<W.pn->(W.zcy j).zc2≠x
theorem zF3{f:Nat->Int}{x:Int}:∀{n:Nat},zGX f x n=0->∀j,j<n->f j≠x
 | 0,_,j,hj=>absurd hj (Nat.not_lt_zero _)
 | n+1,h,j,hj=>by
  by_cases e:f n=x
  ·rw[zQd e]at h;omega
  ·rw[zTn e]at h;by_cases aA:j=n
   ·rw[aA];exact e
   ·exact zF3 h j (by omega)
theorem zQc{f:Nat->Int}{x:Int}{n i:Nat}(hi:i<n)(h:f i=x):1<=zGX f x n:=by
 rcases Nat.eq_zero_or_pos (zGX f x n)with h0 | h0
 ·exact absurd h (zF3 h0 i hi)
 ·exact h0
theorem zLr{f:Nat->Int}{x:Int}:∀{n:Nat},zGX f x n=1->∃i,i<n/\f i=x/\∀j,j<n->j≠i->f j≠x
 | 0,h=>absurd h (by simp[zGX])
 | n+1,h=>by
  by_cases e:f n=x
  ·rw[zQd e]at h;exact⟨n,by omega,e,fun j hj aA=>zF3 (n:=n) (by omega) j (by omega)⟩
  ·rw[zTn e]at h;obtain⟨i,hi,h1,h2⟩:=zLr h;refine⟨i,by omega,h1,fun j hj aA=>?_⟩;by_cases bA:j=n
   ·rw[bA];exact e
   ·exact h2 j (by omega) aA
theorem zZ9{W:zB}{x:Int}(h:zUa W x=1):(∃i,zWk W x i)\/∃i,zWl W x i:=by
 unfold zUa at h;rcases Nat.eq_zero_or_pos (zGX (fun i=>(W.zc1 i).zc2) x W.sn)with h0 | h0
 ·rw[h0,Nat.zero_add]at h;obtain⟨i,hi,h1,h2⟩:=zLr h;exact Or.inl ⟨i,hi,h1,h2,zF3 h0⟩
 ·obtain⟨i,hi,h1,h2⟩:=zLr (f:=fun i=>(W.zc1 i).zc2) (x:=x) (n:=W.sn) (by omega);exact Or.inr ⟨i,hi,h1,h2,zF3 (f:=fun i=>(W.zcy i).zc2) (n:=W.pn) (by omega)⟩
noncomputable def sdY(W:zB)(g:zz)(n:Nat)(f h:Nat->Int):List (Int×Int):=zAl f h (zI W g.zc2).time n
noncomputable def sdO(W:zB)(g:zz)(n:Nat)(f h:Nat->Int):List (Int×Int):=zEj f h (zI W g.zc2).time n
noncomputable def sdD(W:zB)(g:zz)(n:Nat)(f h:Nat->Int):List (Int×Int):=zDq g.dn g.ds g.db ++ sdO W g n f h
noncomputable def zP6(W:zB)(g s:zz):zz:={s with zc2:=g.zc2,dn:=(sdD W g s.dn s.ds s.db).length,ds:=qP (sdD W g s.dn s.ds s.db),db:=qb (sdD W g s.dn s.ds s.db)}
noncomputable def zU3(W:zB)(g:zz)(s:zAV):zAV:={s with zc2:=g.zc2,dn:=(sdD W g s.dn s.ds s.db).length,ds:=qP (sdD W g s.dn s.ds s.db),db:=qb (sdD W g s.dn s.ds s.db)}
noncomputable def zbv(W:zB)(k i:Nat):Nat->zz:=fun j=>if j=i then zP6 W (W.zcy k) (W.zcy i)else W.zcy j
noncomputable def zbw(W:zB)(k i:Nat):Nat->zAV:=fun j=>if j=i then zU3 W (W.zcy k) (W.zc1 i)else W.zc1 j
noncomputable def zRp(W:zB)(k i:Nat):List (Int×Int):=sdY W (W.zcy k) (W.zcy i).dn (W.zcy i).ds (W.zcy i).db
noncomputable def zNn(W:zB)(k i:Nat):List (Int×Int):=sdY W (W.zcy k) (W.zc1 i).dn (W.zc1 i).ds (W.zc1 i).db
noncomputable def zch(W:zB)(k i:Nat):zB:={W with pool:=yN W.pool (zRp W k i),pn:=W.pn - 1,zcy:=del (zbv W k i) k}
noncomputable def zci(W:zB)(k i:Nat):zB:={W with pool:=yN W.pool (zNn W k i),zc1:=zbw W k i,pn:=W.pn - 1,zcy:=del W.zcy k}
theorem zWG{n:Nat}{f g:Nat->Int}{x:Int×Int}(h:x∈zDq n f g):∃j,j<n/\f j=x.1/\g j=x.2:=by
 unfold zDq at h;obtain⟨j,hj,rfl⟩:=List.mem_map.1 h;exact⟨j,List.mem_range.1 hj,rfl,rfl⟩
theorem zHi{W:zB}(hS:zAL W){i:Nat}(hi:i<memN W)(t:Int):zAD (zK W i).dn (zK W i).ds (zK W i).db/\zLU W.pool (zAl (zK W i).ds (zK W i).db t (zK W i).dn):=by
 have hD:zEa W i:=by
  by_cases hp:i<W.pn
  ·exact hS.dead i hp
  ·have:=(hS.zc1 (i - W.pn) (by unfold memN at hi;omega)).2
   rwa [show W.pn+(i - W.pn)=i by omega]at this
 obtain⟨h1,-,-,bA⟩:=hD;refine⟨h1,?_⟩;have hH:zLU W.pool (zDq (zK W i).dn (zK W i).ds (zK W i).db):=by
  refine⟨hS.right,fun x hx=>?_,?_⟩
  ·obtain⟨j,hj,e1,e2⟩:=zWG hx;have hm:=zFP.1 (bA j hj);rw[e1,e2]at hm;unfold zCK at hm;have:=zCD hS.right (zPs hS.zcy (zK W i).zc2) (List.mem_filter.1 hm).1;exact⟨this.1,this.2.2⟩
  ·unfold zDq;rw[List.map_map];unfold List.Nodup;rw[List.pairwise_map];refine List.pairwise_iff_getElem.2 fun a b ha hb aA=>?_
   rw[List.length_range]at ha hb;rw[List.getElem_range,List.getElem_range];exact fun e=>h1.2.2 b hb a aA e
 exact hH.sub (zKO _ _ _ _)
set_option linter.unusedSimpArgs false
set_option maxRecDepth 20000
set_option maxHeartbeats 3200000
open Classical in
noncomputable def sdK(W:zB)(x:Int)(k:Nat):zDe:=if h:∃i,zWl W x i then⟨zci W k h.choose,0,((zNn W k h.choose).length:Int),0⟩else if h:∃i,zWk W x i then⟨zch W k h.choose,0,((zRp W k h.choose).length:Int),0⟩else⟨{W with pn:=W.pn - 1,zcy:=del W.zcy k},0,0,0⟩
open Classical in
noncomputable def sdE(W:zB)(x:Int):zDe:=if zAL W then(if zB2 W x then(if 1<zGo W x W.sn+zHR W x W.pn then yM 7 else sdK W x (zIH W x))else yM 4)else yM 1
structure zb6 (W:zB) (x:Int) (k:Nat) (o:zDe) (VP:Nat->zE) (VS:Nat->Nat->zAV) (m:Nat->Nat) (UP:Nat->zE) (US:Nat->Nat->zz) (l:Nat->Nat):Prop where
 v0:VP 0=W.pool/\VS 0=W.zc1/\m 0=0
 vn:∀j,(VP j).n=W.pool.n/\m j<=1000000
 cur:∀j,VS j j=W.zc1 j
 no:∀j,j<W.sn->(W.zc1 j).zc2≠x->VP (j+1)=VP j/\VS (j+1)=VS j/\m (j+1)=m j
 yes:∀j,j<W.sn->(W.zc1 j).zc2=x->VP (j+1)=yN (VP j) (zNn W k j)/\VS (j+1)=(fun i=>if i=j then zU3 W (W.zcy k) (W.zc1 j)else VS j i)/\m (j+1)=m j+(zNn W k j).length/\(VP j).hn<=W.pool.hn
 u0:UP 0=VP W.sn/\US 0=W.zcy/\l 0=m W.sn
 un:∀j,(UP j).n=W.pool.n/\l j<=1000000
 cur2:∀j,US j j=W.zcy j
 no2:∀j,j<W.pn->(W.zcy j).zc2≠x->UP (j+1)=UP j/\US (j+1)=US j/\l (j+1)=l j
 yes2:∀j,j<W.pn->(W.zcy j).zc2=x->UP (j+1)=yN (UP j) (zRp W k j)/\US (j+1)=(fun i=>if i=j then zP6 W (W.zcy k) (W.zcy j)else US j i)/\l (j+1)=l j+(zRp W k j).length/\(UP j).hn<=W.pool.hn
 fin:o=⟨⟨UP W.pn,W.time,W.next,W.sn,VS W.sn,W.pn - 1,del (US W.pn) k⟩,0,l W.pn,0⟩
theorem zRq{W:zB}(h:zAL W):(∀j,j<W.sn->(W.zc1 j).dn<=200)/\∀j,j<W.pn->(W.zcy j).dn<=200:=by
 refine⟨fun j hj=>?_,fun j hj=>?_⟩
 ·have:=(zHi h (i:=W.pn+j) (by unfold memN;omega) 0).1.1
  rwa [zAo]at this
 ·have:=(zHi h (i:=j) (by unfold memN;omega) 0).1.1
  rwa [yR hj]at this
theorem zUi(W:zB)(x:Int):∀n,zGo W x n=zGX (fun i=>(W.zc1 i).zc2) x n
 | 0=>rfl
 | n+1=>by rw[zGo,zGX,zUi]
theorem zUg(W:zB)(x:Int):∀n,zHR W x n=zGX (fun i=>(W.zcy i).zc2) x n
 | 0=>rfl
 | n+1=>by rw[zHR,zGX,zUg]
theorem zbx{W:zB}{x:Int}{k:Nat}(hs:∀i,i<W.sn->(W.zc1 i).dn<=1000000)(hp:∀i,i<W.pn->(W.zcy i).dn<=1000000)(h1:¬1<zGo W x W.sn+zHR W x W.pn):∃VP VS m UP US l,zb6 W x k (sdK W x k) VP VS m UP US l:=by
 have eT:∀i,i<W.sn->(zNn W k i).length<=1000000:=fun i hi=>Nat.le_trans (zBy ..) (hs i hi)
 have eS:∀i,i<W.pn->(zRp W k i).length<=1000000:=fun i hi=>Nat.le_trans (zBy ..) (hp i hi)
 rw[zUi,zUg]at h1;unfold sdK;by_cases hT:∃i,zWl W x i
 ·rw[dif_pos hT];obtain⟨hi,h2,h3,h4⟩:=hT.choose_spec;generalize hT.choose=i at *;refine⟨fun j=>if j<=i then W.pool else yN W.pool (zNn W k i),fun j=>if j<=i then W.zc1 else zbw W k i,fun j=>if j<=i then 0 else(zNn W k i).length,fun _=>yN W.pool (zNn W k i),fun _=>W.zcy,fun _=>(zNn W k i).length,⟨by simp,fun j=>?_,fun j=>?_,fun j hj e=>?_,fun j hj e=>?_,?_,fun j=>⟨(zB9 _ _).1,eT i hi⟩,fun _=>rfl,fun j hj e=>⟨rfl,rfl,rfl⟩,fun j hj e=>absurd e (h4 j hj),?_⟩⟩
  ·split
   ·exact⟨rfl,by omega⟩
   ·exact⟨(zB9 _ _).1,eT i hi⟩
  ·split
   ·rfl
   ·unfold zbw;rw[if_neg (by omega)]
  ·have:j≠i:=fun h=>e (by rw[h];exact h2)
   have e1:(j+1<=i)↔(j<=i):=(by omega);simp[e1]
  ·have:j=i:=Classical.not_not.1 fun h=>h3 j hj h e
   subst this;have n1:¬j+1<=j:=(by omega);simp[n1];rfl
  ·simp[show ¬W.sn<=i by omega]
  ·simp[show ¬W.sn<=i by omega,zci]
 rw[dif_neg hT];by_cases hS:∃i,zWk W x i
 ·rw[dif_pos hS];obtain⟨hi,h2,h3,h4⟩:=hS.choose_spec;generalize hS.choose=i at *;refine⟨fun _=>W.pool,fun _=>W.zc1,fun _=>0,fun j=>if j<=i then W.pool else yN W.pool (zRp W k i),fun j=>if j<=i then W.zcy else zbv W k i,fun j=>if j<=i then 0 else(zRp W k i).length,⟨by simp,fun j=>⟨rfl,by simp⟩,fun j=>rfl,fun j hj e=>⟨rfl,rfl,rfl⟩,fun j hj e=>absurd e (h4 j hj),by simp,fun j=>?_,fun j=>?_,fun j hj e=>?_,fun j hj e=>?_,?_⟩⟩
  ·split
   ·exact⟨rfl,by omega⟩
   ·exact⟨(zB9 _ _).1,eS i hi⟩
  ·split
   ·rfl
   ·unfold zbv;rw[if_neg (by omega)]
  ·have:j≠i:=fun h=>e (by rw[h];exact h2)
   have e1:(j+1<=i)↔(j<=i):=(by omega);simp[e1]
  ·have:j=i:=Classical.not_not.1 fun h=>h3 j hj h e
   subst this;have n1:¬j+1<=j:=(by omega);simp[n1];rfl
  ·simp[show ¬W.pn<=i by omega,zch]
 rw[dif_neg hS];have z0:zUa W x≠1:=fun e=>(zZ9 e).elim hS hT
 unfold zUa at z0;have z1:∀j,j<W.sn->(W.zc1 j).zc2≠x:=fun j hj e=>by
  have:=zQc (f:=fun i=>(W.zc1 i).zc2) hj e;omega
 have z2:∀j,j<W.pn->(W.zcy j).zc2≠x:=fun j hj e=>by
  have:=zQc (f:=fun i=>(W.zcy i).zc2) hj e;omega
 exact⟨fun _=>W.pool,fun _=>W.zc1,fun _=>0,fun _=>W.pool,fun _=>W.zcy,fun _=>0,⟨by simp,fun j=>⟨rfl,by simp⟩,fun j=>rfl,fun j hj e=>⟨rfl,rfl,rfl⟩,fun j hj e=>absurd e (z1 j hj),by simp,fun j=>⟨rfl,by simp⟩,fun j=>rfl,fun j hj e=>⟨rfl,rfl,rfl⟩,fun j hj e=>absurd e (z2 j hj),rfl⟩⟩
attribute [local go_sem] qX List.map_cons List.map_nil Tr.cv yp qD qs qq yo yn ym qp zAu zAw zAv zAr zAt zAs zCF zCH zCG qH zl qI zm qB qA qM yx zi zj qw qG tmpsOf zAf qv qF zAp yv yr yq yu stpP opds opd opdC kap zAG qC zh coreU bin zAb zB0 get put dlO fgt zA8 zA1 zA5 zA6 tyT yj yi Op.operands Call.operands evLoad evLen evStore evAlloc zAa and_true true_and List.append_nil List.nil_append List.cons_append Ret resCv zBs yQ cellM zBV zBw qY StW StR hpT hpO hpV hpA hpL hpC sg nin zB6 bdO tmW obW AvE CsE CvE Av.tup Av.ids Cv.ids inD ObE Ob.ids TrE.refl qE qt qu qJ qK qL zk ze zb yw zBc zB1 zAy evCall argL argOf qh outOb obO yL zy cvO tot Tr.own rid partsOf fillC zW zBU frz frz1 evBuildSlice zc trs Cv.tr evSlice Option.toArray_none Option.toArray_some evMakeSlice evAppend dstOf srcOf zBC zA7 zA4 zA2 zA3 ikT qn qm ql qk RetP RetN zBd qQ evLd evSt evStoreH zAX evAppendM evAppendT tlOf mvOf rowE shp evTake oOf evC evCallP evCallN evCallO unlast zAW zBB zAU argsF zB5 qy pmC varT vT evField evConv dB0 Option.bind_some Option.bind_none Option.map_some Option.map_none Option.isSome_some Option.isSome_none
attribute [local go_sem] yC zX zAg yI qe zAO zAP zAQ zAR zAS zAT yV yW yX yY yZ yb yd ye qz qV
attribute [-go_sem] zX
attribute [local go_sem] yS zBX zBY yg yG
noncomputable def zXl:za:=qZ (fun q:((zE×Int×Int)×(Nat×(Nat->Nat->Tr))×(Nat×(Nat->Nat->Tr)))×List (Int×Int)=>(true,[.s .o 3 q.1.1.1.n (zY .z q.1.1.1.s),.s .o 1 q.1.1.1.hn (qx q.1.1.1.h),.v (.int .i64 q.1.1.2.1),.v (.int .i64 q.1.1.2.2),.s .o 6 q.1.2.1.1 q.1.2.1.2,.s .o 8 q.1.2.2.1 q.1.2.2.2]) :: [psL q.2]) (fun q=>q.1.1.1.hn+q.2.length<=1000000/\(Tr.s .o 6 q.1.2.1.1 q.1.2.1.2).kept/\(Tr.s .o 8 q.1.2.2.1 q.1.2.2.2).kept) (fun q=>[(true,[.s .o 3 q.1.1.1.n (zY .z q.1.1.1.s),.s .o 1 (yN q.1.1.1 q.2).hn (qx (yN q.1.1.1 q.2).h),.v (.int .i64 q.1.1.2.1),.v (.int .i64 q.1.1.2.2),.s .o 6 q.1.2.1.1 q.1.2.1.2,.s .o 8 q.1.2.2.1 q.1.2.2.2]),iT q.2.length])
theorem zOZ(p:zE)(a b:Int)(n:Nat)(F:Nat->Nat->Tr)(n':Nat)(G:Nat->Nat->Tr)(l:List (Int×Int)):zXl ((true,[.s .o 3 p.n (zY .z p.s),.s .o 1 p.hn (qx p.h),.v (.int .i64 a),.v (.int .i64 b),.s .o 6 n F,.s .o 8 n' G]) :: [psL l])=some (p.hn+l.length<=1000000/\(Tr.s .o 6 n F).kept/\(Tr.s .o 8 n' G).kept,[(true,[.s .o 3 p.n (zY .z p.s),.s .o 1 (yN p l).hn (qx (yN p l).h),.v (.int .i64 a),.v (.int .i64 b),.s .o 6 n F,.s .o 8 n' G]),iT l.length]):=
 zO (fun m=>(((zDm (nth m 0 0) (nth m 0 1),qd (nth m 0 2),qd (nth m 0 3)),(zFr (nth m 0 4),zCf (nth m 0 4)),(zFr (nth m 0 5),zCf (nth m 0 5))),zVP (nth m 1 0))) (fun q=>by exact congrArg (Prod.mk q.1) (zPH q.2)) (((p,a,b),(n,F),(n',G)),l)
theorem zXC:zBr Tryz.prog 107 zXl:=by
 refine zBa zs GOk.nil zr Tryz.func107 rfl Tryz.ntmps107 Tryz.results107 6 ?_;rintro⟨⟨⟨p0,a,b⟩,⟨n,F⟩,n',G⟩,l⟩ hn;obtain⟨hn,kF,kG⟩:p0.hn+l.length<=1000000/\(Tr.s .o 6 n F).kept/\(Tr.s .o 8 n' G).kept:=hn;refine⟨by simp,?_⟩;simp[go_sem];refine yF (fun k:Nat=>⟨[(5,true,.i k),(0,true,.m false [.p 0 0]),(1,true,.m false [.s .b 2 l.length (ptrsT (fun i=>qP l i) (fun i=>qb l i))])],[(0,.var [.h 1000,.h 2000,.v (.int .i64 a),.v (.int .i64 b),.h 5000,.h 6000]),(1000,.row 3 p0.n (zY .z p0.s)),(2000,.row 1 (yN p0 (l.take k)).hn (qx (yN p0 (l.take k)).h)),(5000,.row 6 n F),(6000,.row 8 n' G)]⟩) (fun k=>l.length - k) (fun k=>k<=l.length) 0 (by simp[go_sem,yN]) (Nat.zero_le _) ?_;intro k hk;obtain⟨p,hp⟩:∃p,p=yN p0 (l.take k):=⟨_,rfl⟩;have bA:p.hn=p0.hn+k:=by rw[hp,(zB9 _ _).2.2,List.length_take,Nat.min_eq_left hk]
 have aA:k<l.length->yN p0 (l.take (k+1))=zHH p (qP l k):=fun h=>by
  rw[hp,List.take_succ_eq_append_getElem h,zGd,<-zQo];simp[h]
 rw[<-hp];simp[go_sem,qN (show k<=1000000000 by omega)];refine⟨fun hl=>⟨hl,by omega,by kernel_rfl,k+1,hl,by omega,rfl,?_⟩,fun hl=>?_⟩
 ·rw[aA hl];exact zJ3
 ·cases (show k=l.length by omega);rw[List.take_length]at hp;subst hp;exact⟨zU,⟨TrE.refl _,zd⟩,kF,kG⟩
theorem zXV{fl:Fl}{k n a j:Nat}{F:Nat->Nat->Tr}{T:Tr}(h:(Tr.s fl k n F).kept)(hT:T.kept):(Tr.s fl k n (yK F a j [T])).kept:=by
 refine⟨h.1,fun i q hi hq=>?_⟩;unfold yK;split
 ·rename_i e
  have:q - j=0:=(by have:=e.2.2;simp at this;omega);rw[this];exact hT
 ·exact h.2 i q hi hq
theorem zaG{n j m:Nat}{S:Nat->zAV}{s:zAV}{z:Tr}{F:Nat->Nat->Tr}(h:s.name=(S j).name/\s.origin=(S j).origin/\s.rs=(S j).rs/\s.rb=(S j).rb)(hd:TrE (.s .o 2 m F) (.s .o 2 s.dn (ptrsT s.ds s.db))):TrE (.s .o 6 n (yK (yK (yK (setsE .o S) j 5 [z]) j 5 [.s .o 2 m F]) j 2 [.v (.int .i64 s.zc2)])) (.s .o 6 n (setsE .o fun i=>if i=j then s else S i)):=by
 refine⟨.inl rfl,rfl,rfl,fun i c hi hc=>?_⟩;by_cases e:i=j
 ·subst e;obtain⟨h1,h2,h3,h4⟩:=h
  match c,hc with
  | 0,_ | 1,_ | 2,_ | 3,_ | 4,_=>exact TrE.of_eq (by simp[yK,setsE, *])
  | 5,_=>simpa[yK,setsE]using hd
 ·exact TrE.of_eq (by unfold setsE;simp[yK,e])
theorem zYq{n j m:Nat}{S:Nat->zz}{s:zz}{F:Nat->Nat->Tr}(h:s.id=(S j).id/\s.name=(S j).name/\s.set=(S j).set/\s.time=(S j).time/\s.rs=(S j).rs/\s.rb=(S j).rb)(hd:TrE (.s .o 2 m F) (.s .o 2 s.dn (ptrsT s.ds s.db))):TrE (.s .o 8 n (yK (yK (snapsE .z S) j 7 [.s .o 2 m F]) j 3 [.v (.int .i64 s.zc2)])) (.s .o 8 n (snapsE .z fun i=>if i=j then s else S i)):=by
 refine⟨.inl rfl,rfl,rfl,fun i c hi hc=>?_⟩;by_cases e:i=j
 ·subst e;obtain⟨h1,h2,h3,h4,h5,h6⟩:=h
  match c,hc with
  | 0,_ | 1,_ | 2,_ | 3,_ | 4,_ | 5,_ | 6,_=>exact TrE.of_eq (by simp[yK,snapsE, *])
  | 7,_=>
   simp[yK,snapsE];exact⟨.inr ⟨rfl,rfl⟩,hd.2⟩
 ·exact TrE.of_eq (by unfold snapsE;simp[yK,e])
theorem zbK{a b:Nat}(h:a<=1000000)(h':b<=1000000):IntKind.i64.wrap ((a:Int)+(b:Int))=((a+b:Nat):Int):=by
 simp[IntKind.wrap,IntKind.bits];omega
noncomputable def mSd:za:=qZ (fun q:zB×Int=>[woT q.1,iT q.2]) (fun q=>qO q.1) (fun q=>[wuO (sdE q.1 q.2)])
theorem zbh(W:zB)(x:Int):mSd [woT W,iT x]=some (qO W,[wuO (sdE W x)]):=zO (fun l=>(zCX (nth l 0),qd (nth l 1 0))) (fun _=>rfl) (W,x)
theorem zLc:zp Tryz.prog 75 mSd:=by
 refine zR zs (GOk.cons zBm (zF Tryz.func27 rfl rfl) (GOk.cons zAh (zF Tryz.func32 rfl rfl) (GOk.cons zC1 (zF Tryz.func68 rfl rfl) (GOk.cons zCk (zF Tryz.func84 rfl rfl) (GOk.cons zDV (zF Tryz.func98 rfl rfl) (GOk.cons zQ6 (zF Tryz.func105 rfl rfl) (GOk.cons zFb (zF Tryz.func106 rfl rfl) (GOk.ptr zXC (zF Tryz.func107 rfl rfl) GOk.nil)))))))) zr Tryz.func75 rfl Tryz.ntmps75 Tryz.results75 17 ?_;rintro⟨W,x⟩ hW;replace hW:qO W:=hW;have hs:=hW.sn;have hp:=hW.pn;refine⟨by simp,?_⟩;by_cases hR:zAL W;rotate_left
 ·simp[go_sem,zBE,zCB,yO,hW,hW.toSmallW,hs,hp,hR];exact yP (if_neg hR)
 by_cases hH:zB2 W x;rotate_left
 ·simp[go_sem,zBE,zCB,yO,hW,hW.toSmallW,hs,hp,zML,zJP,hR,hH];exact yP ((if_pos hR).trans (if_neg hH))
 have hk:=zOM hH;have jA:=zJP.2 hH;have bA:zIH W x<W.pn:=by show(zBn W.pn fun k=>(W.zcy k).id=x).toNat<W.pn;omega
 obtain⟨k,dA⟩:∃k,k=zIH W x:=⟨_,rfl⟩;have eA:(zBn W.pn fun k=>(W.zcy k).id=x)=(k:Int):=by rw[dA];show _=((zBn W.pn fun k=>(W.zcy k).id=x).toNat:Int);omega
 have gA:¬(k:Int)<0:=by omega
 rw[<-dA]at bA;by_cases h1:1<zGo W x W.sn+zHR W x W.pn
 ·simp[go_sem,zBE,zCB,yO,zOb,hW,hW.toSmallW,hs,hp,eA,gA,hR,show(1:Int)<(zGo W x W.sn:Int)+(zHR W x W.pn:Int)by omega];exact yP ((if_pos hR).trans ((if_pos hH).trans (if_pos h1)))
 have eR:sdE W x=sdK W x k:=by
  unfold sdE;rw[if_pos hR,if_pos hH,if_neg h1,<-dA]
 obtain⟨VP,VS,m,UP,US,l,run⟩:=zbx (k:=k) hW.sd hW.pd h1;rw[<-eR]at run;have hz:=zEx (fun k hk=>(hR.zc3.prevOk.ids k hk).1) (W.zcy k).zc2;have iA:¬(1:Int)<(zGo W x W.sn:Int)+(zHR W x W.pn:Int):=by omega
 simp[go_sem,zBE,zCB,yO,zOb,yJ,zD3,hW,hW.toSmallW,hs,hp,eA,gA,hR,iA,bA,hz];have q0:=run.v0;refine yF (fun j:Nat=>⟨[(11,true,.i j),(10,true,.i (m j)),(9,true,.i (zI W (W.zcy k).zc2).time),(7,true,.m false [.p 7 0]),(6,true,.m false [.p 6 0]),(5,true,.i k),(4,true,.m false [.p 4 0]),(1,true,.i x)],[(7,.var [.v (.int .i64 (W.zcy k).id),.v (.string (W.zcy k).name),.v (.string (W.zcy k).set),.v (.int .i64 (W.zcy k).zc2),.v (.int .i64 (W.zcy k).time),.v (.int .i64 (W.zcy k).rs),.v (.int .i64 (W.zcy k).rb),.s .z 2 (W.zcy k).dn (ptrsT (W.zcy k).ds (W.zcy k).db)]),(6,.var [.h 61,.h 62,.v (.int .i64 W.time),.v (.int .i64 W.next),.h 63,.h 64]),(64,.row 8 W.pn (snapsE .z W.zcy)),(63,.row 6 W.sn (setsE .o (VS j))),(62,.row 1 (VP j).hn (qx (VP j).h)),(61,.row 3 (VP j).n (zY .z (VP j).s)),(4,.var [.v n0,.v n0,.v i0,.v i0,.v n0,.v n0,.v i0,.v i0,.v i0])]⟩) (fun j=>W.sn - j) (fun j=>j<=W.sn) 0 (by rw[q0.1,q0.2.1,q0.2.2];simp[go_sem]) (Nat.zero_le _) ?_;intro j hj;have hc:=run.cur j;simp[go_sem,qN (show j<=1000000000 by omega),hc];refine⟨fun hl=>⟨hl,?_⟩,fun hl=>?_⟩
 ·by_cases hx:(W.zc1 j).zc2=x
  ·simp[go_sem,hx,hl,hc,qN (show j<=1000000000 by omega),zF7,zOZ,zFo,zEt];obtain⟨e1,e2,e3,e4⟩:=run.yes j hl hx;have hd:=(zRq hR).1 j hl;have hy:(zAl (W.zc1 j).ds (W.zc1 j).db (zI W (W.zcy k).zc2).time (W.zc1 j).dn).length<=(W.zc1 j).dn:=zBy ..;have ho:(zEj (W.zc1 j).ds (W.zc1 j).db (zI W (W.zcy k).zc2).time (W.zc1 j).dn).length<=(W.zc1 j).dn:=zHS ..;have hg:=(zRq hR).2 k bA;have hh:=zHG hR.right;refine⟨by omega,⟨by omega,zXV zt ⟨by simp,fun p q _ _=>by unfold ptrsT;split<;>trivial⟩,zf⟩,by omega,by omega,by kernel_rfl,j+1,hl,by omega,⟨rfl,?_⟩,?_,?_,?_⟩
   ·rw[e3];exact zbK (run.vn j).2 (by omega)
   ·rw[e2,<-hc];refine zaG (s:=zU3 W (W.zcy k) (VS j j)) ⟨rfl,rfl,rfl,rfl⟩ (zJF rfl fun a b ha hb=>?_);unfold zAC;split
    ·rfl
    ·match b,hb with
     | 0,_ | 1,_=>rfl
   ·rw[e1];exact TrE.refl _
   ·rw[e1,(zB9 _ _).1,(zB9 _ _).2.1];exact TrE.refl _
  ·obtain⟨e1,e2,e3⟩:=run.no j hl hx;simp[go_sem,hx,qN (show j<=1000000000 by omega)];exact⟨j+1,hl,by omega,⟨rfl,by rw[e3]⟩,by rw[e2];exact TrE.refl _,by rw[e1];exact TrE.refl _,by rw[e1];exact TrE.refl _⟩
 cases (show j=W.sn by omega);have q1:=run.u0;refine yF (fun i:Nat=>⟨[(14,true,.i i),(10,true,.i (l i)),(9,true,.i (zI W (W.zcy k).zc2).time),(7,true,.m false [.p 7 0]),(6,true,.m false [.p 6 0]),(5,true,.i k),(4,true,.m false [.p 4 0]),(1,true,.i x)],[(7,.var [.v (.int .i64 (W.zcy k).id),.v (.string (W.zcy k).name),.v (.string (W.zcy k).set),.v (.int .i64 (W.zcy k).zc2),.v (.int .i64 (W.zcy k).time),.v (.int .i64 (W.zcy k).rs),.v (.int .i64 (W.zcy k).rb),.s .z 2 (W.zcy k).dn (ptrsT (W.zcy k).ds (W.zcy k).db)]),(6,.var [.h 61,.h 62,.v (.int .i64 W.time),.v (.int .i64 W.next),.h 63,.h 64]),(64,.row 8 W.pn (snapsE .z (US i))),(63,.row 6 W.sn (setsE .o (VS W.sn))),(62,.row 1 (UP i).hn (qx (UP i).h)),(61,.row 3 (UP i).n (zY .z (UP i).s)),(4,.var [.v n0,.v n0,.v i0,.v i0,.v n0,.v n0,.v i0,.v i0,.v i0])]⟩) (fun i=>W.pn - i) (fun i=>i<=W.pn) 0 (by rw[q1.1,q1.2.1,q1.2.2];simp[go_sem]) (Nat.zero_le _) ?_;intro i hi;have cA:=run.cur2 i;simp[go_sem,qN (show i<=1000000000 by omega),cA];refine⟨fun aA=>⟨aA,?_⟩,fun aA=>?_⟩
 ·by_cases hx:(W.zcy i).zc2=x
  ·simp[go_sem,hx,aA,cA,qN (show i<=1000000000 by omega),zF7,zOZ,zFo,zEt];obtain⟨e1,e2,e3,e4⟩:=run.yes2 i aA hx;have hd:=(zRq hR).2 i aA;have hy:(zAl (W.zcy i).ds (W.zcy i).db (zI W (W.zcy k).zc2).time (W.zcy i).dn).length<=(W.zcy i).dn:=zBy ..;have ho:(zEj (W.zcy i).ds (W.zcy i).db (zI W (W.zcy k).zc2).time (W.zcy i).dn).length<=(W.zcy i).dn:=zHS ..;have hg:=(zRq hR).2 k bA;have hh:=zHG hR.right;refine⟨by omega,⟨by omega,zt,zf⟩,by omega,by omega,by kernel_rfl,i+1,aA,by omega,⟨rfl,?_⟩,?_,?_,?_⟩
   ·rw[e3];exact zbK (run.un i).2 (by omega)
   ·rw[e2,<-cA];refine zYq (s:=zP6 W (W.zcy k) (US i i)) ⟨rfl,rfl,rfl,rfl,rfl,rfl⟩ (zJF rfl fun a b ha hb=>?_);unfold zAC;split
    ·rfl
    ·match b,hb with
     | 0,_ | 1,_=>rfl
   ·rw[e1];exact TrE.refl _
   ·rw[e1,(zB9 _ _).1,(zB9 _ _).2.1];exact TrE.refl _
  ·obtain⟨e1,e2,e3⟩:=run.no2 i aA hx;simp[go_sem,hx,qN (show i<=1000000000 by omega)];exact⟨i+1,aA,by omega,⟨rfl,by rw[e3]⟩,by rw[e2];exact TrE.refl _,by rw[e1];exact TrE.refl _,by rw[e1];exact TrE.refl _⟩
 cases (show i=W.pn by omega);rw[run.fin,qN (show k<=1000000000 by omega)];refine⟨by omega,⟨by omega,by omega⟩,⟨by omega,by omega⟩,⟨by omega,by omega⟩,by kernel_rfl,⟨TrE.refl _,zU⟩,⟨TrE.refl _,zd⟩,rfl,rfl,⟨TrE.refl _,zt⟩,⟨?_,zf⟩,by simp⟩;refine⟨.inl rfl,rfl,by show k+(W.pn - (k+1))=W.pn - 1;omega,fun i c hi hc=>TrE.of_eq ?_⟩;show _=snapsE .z (del (US W.pn) k) i c;have e:∀p,(snapsE .z (US W.pn) p c).nt=snapsE .z (US W.pn) p c:=fun p=>by
  match c,hc with
  | 0,_ | 1,_ | 2,_ | 3,_ | 4,_ | 5,_ | 6,_ | 7,_=>rfl
 have e2:snapsE .z (del (US W.pn) k) i c=snapsE .z (US W.pn) (if i<k then i else i+1) c:=by
  have:del (US W.pn) k i=US W.pn (if i<k then i else i+1):=(by unfold del;split<;>rfl);unfold snapsE;rw[this]
 rw[e2];unfold zAC;by_cases fA:i<k
 ·simp[fA,e]
 ·simp[fA,e,show k+1+(i - k)=i+1 by omega]
end Go.Proofs.YtbplmbafodlboaaGreatDoor
