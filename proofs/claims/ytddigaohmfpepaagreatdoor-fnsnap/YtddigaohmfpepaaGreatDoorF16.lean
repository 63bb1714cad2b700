/- A part of the proof. -/
import Derived.Test.YtddigaohmfpepaaGreatDoorF15
import Derived.Shelf.Abstract
set_option linter.unusedVariables false
set_option maxRecDepth 20000
set_option maxHeartbeats 4000000
namespace Go.Proofs.YtddigaohmfpepaaGreatDoor
open Go.RowKit Go.Maps
variable{P:Program}{w w1:World}{M:Nat}{D:DataW Value}{v:Value}
theorem Jp{k:TypeId}{n g o:Nat}(c:w.grownBy w1 (some M))(d:w.ownsMap P k D7 M n D)(h:w.cell? ⟨g,o,none⟩=some v):w1.cell? ⟨g,o,none⟩=some v:=by
 refine(c.cell_far ⟨g,o,none⟩ (AV h) ?_).trans h;intro e;simp only[Option.some.injEq]at e;subst e;obtain⟨f,a,b,-⟩:=d;simp[World.cell?,b]at h
theorem Kw{w2:World}{row:Option Nat}(h:w.grownBy w1 row)(k:w1.grownBy w2 row):w.grownBy w2 row:=
 ⟨k.os.trans h.os,k.tape.trans h.tape,k.output.trans h.output,Nat.le_trans h.size k.size,fun i hi a=>(k.block i (Nat.lt_of_lt_of_le hi h.size) a).trans (h.block i hi a)⟩
theorem JY.side{kt:TypeId}{n lo hi:Nat}{W:A6}{vd:Nat->Value}(h:JY w lo hi v W vd)(a:w.grownBy w1 (some M))(b:w.ownsMap P kt D7 M n D)(i:Nat)(hi':i<memN W) :
 ∃g c,v = .slice (some ⟨g,0,none⟩) (memN W) c/\w1.cell? ⟨g,i*5,none⟩=some (A0 (AA W i).A8)/\w1.cell? ⟨g,i*5+1,none⟩=some (A0 (AA W i).time)/\w1.cell? ⟨g,i*5+2,none⟩=some (A0 (AA W i).rs)/\w1.cell? ⟨g,i*5+3,none⟩=some (A0 (AA W i).rb)/\w1.cell? ⟨g,i*5+4,none⟩=some (vd i):=by
 obtain⟨g,c,e,d,f,j,k,l⟩:=h.cells i hi';exact⟨g,c,e,Jp a b d,Jp a b f,Jp a b j,Jp a b k,Jp a b l⟩
variable{b:Nat}
theorem At.side{a0 a1 a2 a3 a4 a5:Value}(h:At w b a0 a1 a2 a3 a4 a5)(d:w.grownBy w1 (some M))(c:b≠M):At w1 b a0 a1 a2 a3 a4 a5:=by
 obtain⟨f,g,i,j,k,l⟩:=h;have a:∀{o:Nat} {v:Value},AO w b o v->AO w1 b o v:=fun a=>⟨(d.cell_far _ (AV a.1) (fun e=>c (Option.some.inj e))).trans a.1,(d.frozen_far _ (AV a.1) (fun e=>c (Option.some.inj e))).trans a.2⟩
 exact⟨a f,a g,a i,a j,a k,a l⟩
theorem zAf(v:Value)(s:Aa)(w:World):(Instr.field 41 (DI v s) 4).run Tryz.prog w = .ok (A0 s.time) w:=by kernel_rfl
theorem qj:Go.WideMaps.KeyLaw Tryz.prog 38:=deep_law_laid Rz (m:=5) (by decide) (S4 (by kernel_rfl)) (by kernel_rfl) (by kernel_rfl)
theorem LR:Tryz.prog.underlying 172=some (.map 38 2):=by kernel_rfl
theorem S9(w:World):(zeroValue 2).run Tryz.prog w = .ok (A0 0) w:=by kernel_rfl
theorem wrap_small{n:Int}(c:-9223372036854775808<=n)(d:n<9223372036854775808):IntKind.i64.wrap n=n:=by
 unfold IntKind.wrap;simp only[IntKind.signed,IntKind.bits,Bool.true_and];split
 ·rename_i a
  have b:=of_decide_eq_true a;omega
 ·rename_i a
  have b:=of_decide_eq_false (Bool.eq_false_iff.2 a);omega
theorem zAl{N n r h:Nat}(d:r<=n)(hn:n<=200)(c:h<=9223372036854775807):((N:Int) == IntKind.i64.wrap (IntKind.i64.wrap ((n:Int) - (r:Int)) - (h:Int)))=true↔N+r+h=n:=by
 have a:IntKind.i64.wrap ((n:Int) - (r:Int))=(n:Int) - (r:Int):=wrap_small (by omega) (by omega);rw[a];have b:IntKind.i64.wrap ((n:Int) - (r:Int) - (h:Int))=(n:Int) - (r:Int) - (h:Int):=wrap_small (by omega) (by omega);rw[b,beq_iff_eq];omega
theorem Nn{n:Nat}{ky:Value}{kl:Lit}(h:w.ownsMap Tryz.prog 38 D7 b n D)(a:keyOf Tryz.prog 38 ky=some kl)(d:D.atKey kl (.held (A0 0)) = .held v):(Instr.lookup 172 (.map (some b)) ky false).run Tryz.prog w = .ok v w:=by
 obtain⟨f,ps,c,hv⟩:=h.lookup SG LR (S9 w) (GW _) a;have e:=Lr hv;rw[d]at e;obtain rfl:=DataW.held.inj e;exact c
theorem zD3(R v1 T U:Value)(lo hi:Nat)(W:A6)(A:Nat)(w:World)(h:C7 w lo hi R v1 T U W)(hs:W.sn<=8)(hp:W.pn<=20)(hA:G3 w lo hi W A)(hD:Hj W)(vC:G4 W)(hR:AZ W.pool)(hT:Ps W)(gB:∀i,i<memN W->B3 W.pool (AA W i).rs (AA W i).rb) :
 Calls Tryz.prog 69 #[Cc R v1 T U W,KL A] w fun e w'=>AJ (Lg W) e/\Below w.heap.size w w':=by
 obtain⟨key,hK⟩:=zr hR gB;have X:=A4 hK;have Hp:=A4 h;have HA:=A4 hA;have HD:=A4 hD;have aE:=A4 vC;have HR:=A4 hR;have nD:=A4 hT;have oD:=A4 gB;clear h hA hD vC hR hT gB hK;have ha:=AB w (.cells #[R,v1,A0 W.time,A0 W.next,T,U] 30);have HB:=A4 (At.new w R v1 (A0 W.time) (A0 W.next) T U 30);have sB:(w.alloc (.cells #[R,v1,A0 W.time,A0 W.next,T,U] 30)).heap.size=w.heap.size+1:=World.size_alloc _ _;have hm:=World.ownsMap_made (w.alloc (.cells #[R,v1,A0 W.time,A0 W.next,T,U] 30)) Tryz.prog 38 D7;rw[sB]at hm;have HM:=A4 hm;have Z:=A4 (HB.out.A1 (AB _ (.map #[] 0)));have aA:=A4 (A9 ha (AB _ (.map #[] 0)));have sG:=@run_makeMap Tryz.prog;obtain⟨x0,x2,x4,x6,x8,sE⟩:=Z.out.c;clear hm;go_enter Tryz.func69,Tryz.ntmps69;go_wp2_with fail;go_step3;go_wp2_with fail;go_step3;go_wp2_with fail;clear x0 x2 x4 x6 x8 sE ha HB;have fB:=A4 (show((w.alloc (.cells #[R,v1,A0 W.time,A0 W.next,T,U] 30)).alloc (.map #[] 0)).heap.size=w.heap.size+2 by rw[World.size_alloc,sB]);clear sB;generalize (w.alloc (.cells #[R,v1,A0 W.time,A0 W.next,T,U] 30)).alloc (.map #[] 0)=W0 at HM Z aA fB ⊢;refine(RY R v1 T U lo hi W W0 (Hp.out.A1 aA.out) hs hp).mono ?_;rintro e w1 ⟨vm,vd,rfl,hm,J⟩;have aC:=A4 hm;have bC:=A4 (Z.out.A1 J);have vB:=A4 (HM.out.kept (EK J none) (by simp));have dE:=A9 aA.out J;have hz:w.heap.size+2<=w1.heap.size:=by have h1:=J.size;have h2:=fB.out;omega
 obtain⟨am,cm,rfl,oG⟩:=id hm.form;have tG:memN W<=28:=by unfold memN;omega
 clear J hm Z aA HM fB;go_wp2
 go_loopw [6,15] (fun s i wr=>∃k:Nat,k<=memN W/\s = .bool true/\i=A0 k/\wr.ownsMap Tryz.prog 38 D7 (w.heap.size+1) (B7 W k).length (KE key (B7 W k).length)/\Gq (B7 W k).length key/\w1.grownBy wr (some (w.heap.size+1))/\Below w.heap.size w wr) (fun _ i _=>memN W - (intOf i).toNat)
 case atStart=>exact⟨0,Nat.zero_le _,rfl,rfl,vB.out,fun i hi=>absurd hi (Nat.not_lt_zero _),World.grownBy.refl _ _,dE⟩
 case round=>
  obtain⟨k,hk,rfl,rfl,z,L,M,hb⟩:=hrel;have b:=A4 z;have B:=A4 L;have d:=A4 M;clear z L M;by_cases O:k<memN W;rotate_left
  ·obtain rfl:k=memN W:=(by omega);obtain⟨⟨m0,a0,c0,rfl,rH,-⟩,⟨m1,a1,c1,rfl,sH,-⟩⟩:=id Hp.out.pool;have rB:=X.out.size B.out;have pC:=(b.out.kept (EK ((Below.refl _ _).drew) none) (by simp)).len LR 3;rw[rB]at pC;have vD:=A4 rB;clear rB;have P:=Nh W.pool.s W.pool.n;have oA:=HR.out.1;unfold maxLen at m0 m1;have l:=A4 (bC.out.side d.out (by omega));obtain⟨x0,x1,x2,x3,x4,x5⟩:=l.out.c;have lD:=A4 (X.out.dist.1 B.out);have mE:Ml W.pool=(roomN W.pool.s W.pool.n:Int):=if_pos HR.out;generalize hN:(B7 W (memN W)).length=N at *;have HN:=A4 hN;clear hN;go_wp2_with fail;go_region_held3 (fun w'=>w'.cell? ⟨w.heap.size,0,none⟩=some (.slice a0 W.pool.n c0)/\w'.cell? ⟨w.heap.size,1,none⟩=some (.slice a1 W.pool.hn c1)/\(Builtin.len_ #[172] 3 #[.map (some (w.heap.size+1))]).run Tryz.prog w' = .ok (A0 (N:Nat)) w') (go_keep)
    (first
     | (go_at_call 133;refine(zDH _ _ lo hi W.pool _ ((Hp.out.A1 hb).pool.A1 (Below.refl _ _).drew)).mono ?_;rintro e w5 ⟨rfl,eA⟩;have u:=Cp eA;obtain⟨⟨k0,_⟩,⟨k1,_⟩,_⟩:=l.out.A1 u;have oC:=(b.out.kept (EK u none) (by simp)).len LR 3;rw[vD.out]at oC))
   have rA:=zAl (N:=N) P oA (by omega:W.pool.hn<=9223372036854775807);have iC:=A4 rA;have gE:=A9 hb u;clear rA pC oC mE P oA;go_wp2
   try rw[Exit.noGoto_ret]
   go_ret;refine⟨⟨_,rfl,?_⟩,gE⟩;rw[iC.out];unfold Lg;rw[HN.out];exact⟨fun Y=>⟨lD.out,Y⟩,fun Y=>Y.2⟩
  have iF:(k:Int)<(memN W:Int):=(by omega);obtain⟨g,cg,e,q0,q1,q2,q3,q4⟩:=aC.out.side d.out vB.out k O;obtain⟨-,ad,cd,tC,-,-⟩:=id (aC.out.dead k O);rw[tC]at q4;cases e;have m:=AB wr (.cells #[A0 (AA W k).A8,A0 (AA W k).time,A0 (AA W k).rs,A0 (AA W k).rb,.slice ad (AA W k).dn cd] 169);have H:=A4 (Fw.new wr (A0 (AA W k).A8) (A0 (AA W k).time) (A0 (AA W k).rs) (A0 (AA W k).rb) (.slice ad (AA W k).dn cd) 169);have l:=A4 ((bC.out.side d.out (by omega)).A1 m);have dA:=A9 hb m;have C:=A4 (b.out.kept (EK m none) (by simp));have G:=A4 (Kw d.out (EK m (some (w.heap.size+1))));have sA:=A4 (HA.out.A1 dA);have bB:=A4 (Hp.out.A1 dA);have bE:=A4 (aE.out k O);have vA:=A4 (oD.out k O);have cB:=A4 (nD.out (AA W k).A8);have eB:=A4 (show Cg W (AA W k)=EA (AG W.pool (AA W k).rs (AA W k).rb) (AI W (AA W k).A8).time from rfl);have mA:=A4 (show(B7 W (k+1)).length=(B7 W k).length+(Cg W (AA W k)).length from List.length_append);have pD:=A4 (fun (j:Nat) (hj:j<(Cg W (AA W k)).length)=>zEK W (k:=k) (n:=memN W) O hj);have cE:=A4 (Xs W (AA W k));have sD:=A4 (XX W k);clear tC m d b;generalize AA W k=mk at *;go_wp2_with fail;clear q0 q1 q2 q3 q4;have I:=A4 (show w.heap.size+2<=(wr.alloc (.cells #[A0 mk.A8,A0 mk.time,A0 mk.rs,A0 mk.rb,.slice ad mk.dn cd] 169)).heap.size from Nat.le_trans hz G.out.size);generalize wr.alloc (.cells #[A0 mk.A8,A0 mk.time,A0 mk.rs,A0 mk.rb,.slice ad mk.dn cd] 169)=W2 at H l sA bB dA C G I ⊢;generalize wr.heap.size=V at H ⊢;obtain⟨⟨y0,-⟩,⟨y1,-⟩,⟨y2,-⟩,⟨y3,-⟩,⟨y4,-⟩⟩:=H.out;obtain⟨x0,x1,x2,x3,x4,x5⟩:=l.out.c;have nE:=Dh W.pool mk.rs mk.rb;have tA:=A4 (show Cf (AG W.pool mk.rs mk.rb).length (AN (AG W.pool mk.rs mk.rb)) (AP (AG W.pool mk.rs mk.rb))from Ky HR.out (fun x Y=>(ED HR.out vA.out Y).1) (L0 HR.out vA.out) (by omega));have iE:=Y5;have jE:=zAf;generalize jC:AI W mk.A8=S at cB eB ⊢;have jD:=A4 jC;clear jC;generalize kC:AG W.pool mk.rs mk.rb=tree at tA nE eB ⊢;have mD:=A4 kC;clear kC;go_region_held3 (fun w'=>w'.cell? ⟨w.heap.size,0,none⟩=some R/\w'.cell? ⟨w.heap.size,1,none⟩=some v1/\w'.cell? ⟨w.heap.size,2,none⟩=some (A0 W.time)/\w'.cell? ⟨w.heap.size,3,none⟩=some (A0 W.next)/\w'.cell? ⟨w.heap.size,4,none⟩=some T/\w'.cell? ⟨w.heap.size,5,none⟩=some U/\w'.cell? ⟨V,0,none⟩=some (A0 mk.A8)/\w'.cell? ⟨V,2,none⟩=some (A0 mk.rs)/\w'.cell? ⟨V,3,none⟩=some (A0 mk.rb)) (go_keep)
   (first
    | (go_at_call 132;refine(Ku R v1 T U lo hi W mk.rs mk.rb _ ?_ HR.out vA.out).mono ?_;(exact bB.out.A1 (Below.refl _ _).drew);rintro e w5 ⟨vt,rfl,iA,eA⟩;rw[mD.out]at iA;obtain⟨fG,gG,rfl,-⟩:=Bw iA;have u:=Cp eA;obtain⟨⟨k0,_⟩,⟨k1,_⟩,⟨k2,_⟩,⟨k3,_⟩,⟨k4,_⟩,⟨k5,_⟩⟩:=l.out.A1 u;obtain⟨⟨l0,_⟩,_,⟨l2,_⟩,⟨l3,_⟩,_⟩:=H.out.A1 u)
    | (go_at_call 126;refine(Jo lo hi W A mk.A8 _ (sA.out.A1 u) HD.out bE.out hp).mono ?_;rintro e w6 ⟨aa,ca,rfl,lE,iB⟩;rw[jD.out];have cA:=A9 u iB;obtain⟨⟨f0,_⟩,⟨f1,_⟩,⟨f2,_⟩,⟨f3,_⟩,⟨f4,_⟩,⟨f5,_⟩⟩:=l.out.A1 cA;obtain⟨⟨g0,_⟩,_,⟨g2,_⟩,⟨g3,_⟩,_⟩:=H.out.A1 cA)
    | (go_at_call 131;refine(RX _ tree.length 0 _ (AN tree) (AP tree) S.time _ ((iA.A1 iB).atW (by omega))).mono ?_;rintro e w7 ⟨vy,vz,ly,lz,rfl,hY,-,hy,-,-,lC⟩;rw[(hY.1 ⟨tA.out,cB.out⟩).trans (QA tree S.time)]at hy;rw[<-eB.out]at hy;obtain⟨ay,cy,rfl,pG⟩:=Bw hy;have y:=A9 cA lC;obtain⟨⟨m0,_⟩,⟨m1,_⟩,⟨m2,_⟩,⟨m3,_⟩,⟨m4,_⟩,⟨m5,_⟩⟩:=l.out.A1 y;obtain⟨⟨n0,_⟩,_,⟨n2,_⟩,⟨n3,_⟩,_⟩:=H.out.A1 y))
  have HY:=A4 hy;have D:=A4 (C.out.kept (EK y none) (by simp));have cC:=A4 (Kw G.out (EK y (some (w.heap.size+1))));have bG:=A4 (l.out.A1 y);have E:=A9 dA y;have dH:w.heap.size+2<=w7.heap.size:=Nat.le_trans I.out y.size;have bH:=cE.out;have rG:=sD.out;clear hy y lC cA iB u eA iA lE hY l H sA bB C G I tA cB iE jE x0 x1 x2 x3 x4 x5 y0 y1 y2 y3 y4 k0 k1 k2 k3 k4 k5 l0 l2 l3 f0 f1 f2 f3 f4 f5 g0 g2 g3 m0 m1 m2 m3 m4 m5 n0 n2 n3;generalize aH:Cg W mk=yl at *;go_wp2_with fail
  go_loopw [6,31] (fun s i wr=>∃j:Nat,j<=yl.length/\s = .bool true/\i=A0 j/\wr.ownsMap Tryz.prog 38 D7 (w.heap.size+1) ((B7 W k).length+j) (KE key ((B7 W k).length+j))/\Gq ((B7 W k).length+j) key/\w7.grownBy wr (some (w.heap.size+1))/\Below w.heap.size w wr) (fun _ i _=>yl.length - (intOf i).toNat)
  case atStart=>exact⟨0,Nat.zero_le _,rfl,rfl,D.out,B.out,World.grownBy.refl _ _,E⟩
  case round=>
   clear E;obtain⟨j,hj,rfl,rfl,z,mC,M,E⟩:=hrel;have b:=A4 z;have bA:=A4 mC;have d:=A4 M;clear z mC M;by_cases lB:j<yl.length;rotate_left
   ·obtain rfl:j=yl.length:=(by omega);go_wp2;go_roundw
    case rel=>
     refine⟨k+1,by omega,rfl,by go_num,?_,?_,Kw cC.out d.out,E⟩
     ·rw[mA.out];exact b.out
     ·rw[mA.out];exact bA.out
    case measure=>simp[intOf];omega
   have gF:(j:Int)<(yl.length:Int):=(by omega);obtain⟨-,a7,c7,e7,-,K⟩:=id (HY.out.atW (by omega));cases e7;obtain⟨b7,o7,rfl,-,-,K⟩:=K (by omega);have q0:=Jp d.out D.out (K j lB).1;have q1:=Jp d.out D.out (K j lB).2;clear K;obtain⟨pB,rC⟩:=pD.out j lB;have pA:keyOf Tryz.prog 38 (.agg #[A0 (AN yl j),A0 (AP yl j)])=some (key ((B7 W k).length+j)):=by
    have:=X.out.at_ _ pB;rw[rC]at this;exact this
   have tD:=A4 pB;have r:=A4 pA;clear rC pB pA;have m:=AB wr (.cells #[A0 (AN yl j),A0 (AP yl j)] 38);have H:=A4 (Ad.new wr (A0 (AN yl j)) (A0 (AP yl j)) 38);have f:=A4 ((b.out.kept (EK m none) (by simp)).kept (EK ((Below.refl _ _).drew) none) (by simp));have lA:=A4 (Kw d.out (EK m (some (w.heap.size+1))));have F:=A9 E m;have v:=A4 (show w.heap.size+1<wr.heap.size by have:=d.out.size;omega);clear m d b;have vG:(B7 W k).length+j<=3000:=(by omega);generalize sC:(B7 W k).length+j=p at *;have fC:=A4 sC;clear sC;generalize AN yl j=xs at *;generalize AP yl j=xb at *;go_wp2_with fail;clear q0 q1;generalize wr.alloc (.cells #[A0 xs,A0 xb] 38)=W3 at H f lA F ⊢;generalize wr.heap.size=V at H v ⊢;by_cases t:∀i,i<p->key i≠key p
   ·have mB:=Nn f.out r.out (X.out.new t);obtain⟨ev,st,wa,wb,he,nB,Q,a,kB,o⟩:=XM f.out qj LR (by unfold maxLen;omega) S9 r.out (X.out.new t) (val:=A0 1);obtain⟨⟨y0,-⟩,⟨y1,-⟩⟩:=H.out.A1 ((Below.refl _ _).drew);have z0:=(o.cell_far _ (AV y0) (fun e=>by have h1:=Option.some.inj e;have h2:=v.out;simp only at h1;omega)).trans y0;have z1:=(o.cell_far _ (AV y1) (fun e=>by have h1:=Option.some.inj e;have h2:=v.out;simp only at h1;omega)).trans y1;have kE:=Nn a r.out (X.out.put p _);have aB:=A4 a;have rD:=A4 (Kw (Kw lA.out (EK ((Below.refl _ _).drew) (some (w.heap.size+1)))) o);have jB:=F.drew.grown o (Nat.le_trans F.size (Nat.le_refl _)) (fun q e=>by cases e;omega);have dC:=A4 t;clear a kB o t F E;unfold goInt at he Q;go_region;clear mB nB he Q y0 y1;go_wp2;go_roundw
    case rel=>exact⟨j+1,by omega,rfl,by go_num,by rw[show(B7 W k).length+(j+1)=p+1 by have:=fC.out;omega];exact aB.out,by rw[show(B7 W k).length+(j+1)=p+1 by have:=fC.out;omega];exact R4.2 ⟨bA.out,dC.out⟩,rD.out,jB⟩
    case measure=>simp[intOf];omega
   ·obtain⟨i0,gA,fA⟩:∃i,i<p/\key i=key p:=by
     by_cases Y:∃i,i<p/\key i=key p
     ·exact Y
     ·exact absurd (fun i hi e=>Y ⟨i,hi,e⟩) t
    have eC:=A4 (X.out.not_nodup gA tD.out fA);have mB:=Nn f.out r.out (X.out.old gA fA bA.out);obtain⟨ev,st,wa,wb,he,nB,Q,a,kB,o⟩:=XM f.out qj LR (by unfold maxLen;omega) S9 r.out (X.out.old gA fA bA.out) (val:=A0 2);obtain⟨⟨y0,-⟩,⟨y1,-⟩⟩:=H.out.A1 ((Below.refl _ _).drew);have z0:=(o.cell_far _ (AV y0) (fun e=>by have h1:=Option.some.inj e;have h2:=v.out;simp only at h1;omega)).trans y0;have z1:=(o.cell_far _ (AV y1) (fun e=>by have h1:=Option.some.inj e;have h2:=v.out;simp only at h1;omega)).trans y1;have kE:=Nn a r.out (X.out.put p _);have jB:=F.drew.grown o (Nat.le_trans F.size (Nat.le_refl _)) (fun q e=>by cases e;omega);clear a kB o t F E gA fA;unfold goInt at he Q;go_region;clear mB nB he Q y0 y1;go_wp2_with fail;go_region;go_wp2;rw[Exit.noGoto_ret];go_ret;exact⟨AJ.no fun Y=>eC.out Y.1,jB.drew⟩
theorem ZS(p v1 q r:Value)(lo hi:Nat)(W:A6)(w:World)(h:C7 w lo hi p v1 q r W)(P:G4 W) :
 Calls Tryz.prog 25 #[Cc p v1 q r W] w fun e w'=>AJ (DE W) e/\Below w.heap.size w w':=by
 have t:=A4 h;have u:=A4 P;clear h P;have M:=AB w (.cells #[p,v1,A0 W.time,A0 W.next,q,r] 30);have S:=A4 (At.new w p v1 (A0 W.time) (A0 W.next) q r 30);obtain⟨j,k,l,m,n,o⟩:=S.out.c;go_enter Tryz.func25,Tryz.ntmps25;go_wp2_with fail;generalize w.alloc (.cells #[p,v1,A0 W.time,A0 W.next,q,r] 30)=W0 at M S j k l m n o ⊢;refine(ZN W.time W0).mono ?_;rintro e w1 ⟨⟨f,rfl,b⟩,rfl⟩;have a:=A4 b;clear b;cases f
 ·have g:=A4 (show ¬DE W from fun i=>absurd (a.out.2 i.Aq.time) (by simp));clear a;go_wp2;go_ret;exact⟨AJ.no g.out,M⟩
 have H1:=A4 (a.out.1 rfl);clear a;go_wp2_with fail;refine(ZN W.next _).mono ?_;rintro e w1 ⟨⟨f,rfl,b⟩,rfl⟩;have a:=A4 b;clear b;cases f
 ·have g:=A4 (show ¬DE W from fun i=>absurd (a.out.2 i.Aq.next) (by simp));clear a;go_wp2;go_ret;exact⟨AJ.no g.out,M⟩
 have H2:=A4 (a.out.1 rfl);clear a;go_wp2_with fail;refine(zCU q W.sn lo hi W.A2 _ (t.out.A1 M).A2).mono ?_;rintro e w2 ⟨⟨f,rfl,b⟩,d⟩;have a:=A4 b;have v:=A9 M d;have G:=A4 (S.out.A1 d);clear b d j k l m n o;obtain⟨j,k,l,m,n,o⟩:=G.out.c;cases f
 ·have g:=A4 (show ¬DE W from fun i=>absurd (a.out.2 i.Aq.A2) (by simp));clear a;go_wp2;go_ret;exact⟨AJ.no g.out,v⟩
 have V:=A4 (a.out.1 rfl);clear a;have hs:=V.out.1;go_wp2_with fail;refine(zCm p v1 q r lo hi W _ (t.out.A1 v) hs).mono ?_;rintro e w3 ⟨⟨f,rfl,b⟩,d⟩;have a:=A4 b;have x:=A9 v d;have H:=A4 (G.out.A1 d);clear b d j k l m n o;obtain⟨j,k,l,m,n,o⟩:=H.out.c;cases f
 ·have g:=A4 (show ¬DE W from fun i=>absurd (a.out.2 i.Aq.A3) (by simp));clear a;go_wp2;go_ret;exact⟨AJ.no g.out,x⟩
 have X:=A4 (a.out.1 rfl);clear a;have O:=X.out.1;have s:=A4 (show Eo W from⟨H1.out,H2.out,V.out,X.out⟩);go_wp2_with fail;refine(MR p v1 lo hi W.pool _ (t.out.A1 x).pool).mono ?_;rintro e w4 ⟨⟨f,rfl,b⟩,d⟩;have a:=A4 b;have y:=A9 x d;have I:=A4 (H.out.A1 d);clear b d j k l m n o;obtain⟨j,k,l,m,n,o⟩:=I.out.c;cases f
 ·have g:=A4 (show ¬DE W from fun i=>absurd (a.out.2 i.right) (by simp));clear a;go_wp2;go_ret;exact⟨AJ.no g.out,y⟩
 have Q:=A4 (a.out.1 rfl);clear a;go_wp2_with fail;refine(Yc p v1 q r lo hi W _ (t.out.A1 y) O s.out.idsWf).mono ?_;rintro e w5 ⟨A,rfl,hA,d⟩;have D:=A4 hA;have N:=A9 y d;have J:=A4 (I.out.A1 d);clear hA d j k l m n o;obtain⟨j,k,l,m,n,o⟩:=J.out.c;go_wp2_with fail;refine(zCj p v1 q r lo hi W A _ (t.out.A1 N) hs O D.out s.out.dist u.out).mono ?_;rintro e w6 ⟨⟨f,rfl,b⟩,d⟩;have a:=A4 b;have z:=A9 N d;have K:=A4 (J.out.A1 d);have E:=A4 (D.out.A1 d);clear b d j k l m n o;obtain⟨j,k,l,m,n,o⟩:=K.out.c;cases f
 ·have g:=A4 (show ¬DE W from fun i=>absurd (a.out.2 i.prevs) (by simp));clear a;go_wp2;go_ret;exact⟨AJ.no g.out,z⟩
 have Y:=A4 (a.out.1 rfl);clear a;go_wp2_with fail;refine(zD4 p v1 q r lo hi W A _ (t.out.A1 z) O hs E.out s.out.dist (s.out.ER Y.out)).mono ?_;rintro e w7 ⟨⟨f,rfl,b⟩,d⟩;have a:=A4 b;have B:=A9 z d;have L:=A4 (K.out.A1 d);have F:=A4 (E.out.A1 d);clear b d j k l m n o;obtain⟨j,k,l,m,n,o⟩:=L.out.c;cases f
 ·have g:=A4 (show ¬DE W from fun i=>absurd (a.out.2 i.lines) (by simp));clear a;go_wp2;go_ret;exact⟨AJ.no g.out,B⟩
 have H8:=A4 (a.out.1 rfl);clear a;go_wp2_with fail;refine(zCo p v1 q r lo hi W A _ (t.out.A1 B) hs O F.out s.out.dist u.out Q.out s.out.times).mono ?_;rintro e w8 ⟨⟨f,rfl,b⟩,d⟩;have a:=A4 b;have C:=A9 B d;have T:=A4 (L.out.A1 d);have R:=A4 (F.out.A1 d);clear b d j k l m n o;obtain⟨j,k,l,m,n,o⟩:=T.out.c;cases f
 ·have g:=A4 (show ¬DE W from fun i=>absurd (a.out.2 i.trees) (by simp));clear a;go_wp2;go_ret;exact⟨AJ.no g.out,C⟩
 have Z:=A4 (a.out.1 rfl);clear a;go_wp2_with fail;refine(zD3 p v1 q r lo hi W A _ (t.out.A1 C) hs O R.out s.out.dist u.out Q.out s.out.times Z.out.1).mono ?_;rintro e w9 ⟨⟨f,rfl,b⟩,d⟩;have a:=A4 b;have U:=A9 C d;clear b d;have g:=A4 (show f=true↔DE W from⟨fun e=>⟨s.out,Q.out,Y.out,H8.out,Z.out,a.out.1 e⟩,fun i=>a.out.2 i.homes⟩);clear a;go_wp2;go_ret;exact⟨⟨f,rfl,g.out⟩,U⟩
def JC(w:World)(b:Nat)(v0 v1 v2 v3:Value):Prop:=AO w b 0 v0/\AO w b 1 v1/\AO w b 2 v2/\AO w b 3 v3
theorem JC.A1{w':World}{v0 v1 v2 v3:Value}(h:JC w b v0 v1 v2 v3)(t:Below w.heap.size w w'):JC w' b v0 v1 v2 v3:=⟨h.1.A1 t,h.2.1.A1 t,h.2.2.1.A1 t,h.2.2.2.A1 t⟩
theorem JC.new(w:World)(b v1 c d:Value)(t:TypeId):JC (w.alloc (.cells #[b,v1,c,d] t)) w.heap.size b v1 c d:=by
 have a:(w.alloc (.cells #[b,v1,c,d] t)).heap[w.heap.size]?=some (.cells #[b,v1,c,d] t):=heap_alloc_new _ _;exact⟨Az a rfl,Az a rfl,Az a rfl,Az a rfl⟩
def It(w:World)(p:Nat->Addr)(v:Value)(m:Nat)(g:Nat->Nat)(lb:Nat->Array Value)(ei:Nat->Nat):Prop:=
 m<=1000/\∃a c,v = .slice a m c/\(0<m->∃b off,a=some ⟨b,off,none⟩/\∀i,i<m->w.cell? ⟨b,off+i*2,none⟩=some (.func (.func (g i)) #[] (lb i))/\w.cell? ⟨b,off+i*2+1,none⟩=some (Af (p (ei i))))
variable{p:Nat->Addr}{g ei:Nat->Nat}{lb:Nat->Array Value}
theorem It.A1{w':World}{m:Nat}(h:It w p v m g lb ei)(t:Below w.heap.size w w'):It w' p v m g lb ei:=by
 obtain⟨k,a,c,hv,j⟩:=h;refine⟨k,a,c,hv,fun e=>?_⟩;obtain⟨b,off,f,d⟩:=j e;exact⟨b,off,f,fun i hi=>⟨(t.cell (AV (d i hi).1)).trans (d i hi).1,(t.cell (AV (d i hi).2)).trans (d i hi).2⟩⟩
theorem It.cells{a:Option Addr}{c m:Nat}(h:It w p (.slice a m c) m g lb ei){i:Nat}(hi:i<m):∃b off,a=some ⟨b,off,none⟩/\w.cell? ⟨b,off+i*2,none⟩=some (.func (.func (g i)) #[] (lb i))/\w.cell? ⟨b,off+i*2+1,none⟩=some (Af (p (ei i))):=by
 obtain⟨k,j,c0,hv,f⟩:=h;simp only[Value.slice.injEq,true_and]at hv;obtain⟨rfl,rfl⟩:=hv;obtain⟨b,off,d,e⟩:=f (by omega);exact⟨b,off,d,e i hi⟩
def FN(W:A6)(long bad:Prop)(m:Nat)(Q:Nat->Prop)(ei:Nat->Nat)(r:Option Nat):Prop:=
 (long/\r=some 1)\/(¬long/\(¬DE W\/bad)/\r=some 0)\/(¬long/\DE W/\¬bad/\∃i,i<m/\¬Q i/\(∀j,j<i->Q j)/\r=some (ei i))\/(¬long/\DE W/\¬bad/\(∀j,j<m->Q j)/\r=none)
def SM(p:Nat->Addr):Option Nat->Value
 | none=>.nilIface
 | some i=>Af (p i)
theorem zBQ(p:Nat->Addr)(tv nv qv dv:Value)(A z m:Nat)(tx nx:Nat->ByteArray)(g:Nat->Nat)(P:Nat->Array Value)(ei:Nat->Nat)(Q:Nat->Prop)(J v1 K L:Value)(lo hi:Nat)(W:A6)(w:World)(hE:D8 w p)(h:C7 w lo hi J v1 K L W)(fB:G4 W)
 (ht:E3 w tv A tx) (hn:E3 w nv z nx) (hq:It w p qv m g P ei) (eg:∀i,i<m->Enters Tryz.prog (g i))
 (hQ:∀i,i<m->∀w',Below w.heap.size w w'->DE W->(∀j,j<i->Q j)->Calls Tryz.prog (g i) (#[Cc J v1 K L W] ++ P i) w' fun e iB=>AJ (Q i) e/\Below w'.heap.size w' iB) :
 Calls Tryz.prog 58 #[.agg #[tv,nv,qv,dv],Cc J v1 K L W] w fun e w'=>∃r,e = .returned (SM p r)/\FN W (∃i,i<A/\8000<(tx i).size) (∃i,i<z/\¬BX (nx i)) m Q ei r/\Below w.heap.size w w':=by
 have Hp:=AQ h;have HE:=AQ hE;have Ht:=AQ ht;have Hn:=AQ hn;have Hq:=AQ hq;have HQ:=AQ hQ;have Hg:=AQ eg;obtain⟨t1,ta,tc,rfl,-⟩:=ht;obtain⟨n1,na,nc,rfl,-⟩:=hn;obtain⟨m1,qa,qc,rfl,-⟩:=hq;clear h hE hQ eg;have bA:=AB w (.cells #[.slice ta A tc,.slice na z nc,.slice qa m qc,dv] 70);have I:=AB (w.alloc (.cells #[.slice ta A tc,.slice na z nc,.slice qa m qc,dv] 70)) (.cells #[J,v1,A0 W.time,A0 W.next,K,L] 30);have C:=A9 bA I;have hd:=(JC.new w (.slice ta A tc) (.slice na z nc) (.slice qa m qc) (dv) 70).A1 I;have hx:=At.new (w.alloc (.cells #[.slice ta A tc,.slice na z nc,.slice qa m qc,dv] 70)) (J) (v1) (A0 W.time) (A0 W.next) (K) (L) 30;rw[World.size_alloc]at hx;have HD:=AQ hd;have HX:=AQ hx;clear hd hx;obtain⟨⟨U,-⟩,⟨X,-⟩,⟨Y,-⟩,⟨Z,-⟩⟩:=HD.out;go_enter Tryz.func58,Tryz.ntmps58;go_wp2_with fail;clear U X Y Z;generalize ((w.alloc (.cells #[.slice ta A tc,.slice na z nc,.slice qa m qc,dv] 70)).alloc (.cells #[J,v1,A0 W.time,A0 W.next,K,L] 30))=W1 at C HD HX ⊢;clear bA I;refine(zo _ A tx W1 (Ht.out.A1 C)).mono ?_;rintro e w2 ⟨⟨t,rfl,d⟩,q⟩;have n:=A9 C q;have R:=AQ (HD.out.A1 q);have E:=AQ (HX.out.A1 q);clear q C HD HX;by_cases l:∃i,i<A/\8000<(tx i).size
 ·obtain rfl:t=true:=d.2 l;have M:=AQ l;have cA:w2.cell? ⟨3,0,none⟩=some (Af (p 1)):=(HE.out.A1 n).cell 1 (by omega);clear d l;go_wp2;go_ret;exact⟨some 1,rfl,Or.inl ⟨M.out,rfl⟩,n⟩
 obtain rfl:t=false:=BQ d l;have M:=AQ l;clear d l;obtain⟨x0,x1,x2,x3,x4,x5⟩:=E.out.c;go_wp2_with fail;clear x0 x1 x2 x3 x4 x5;refine(ZS _ _ _ _ lo hi W w2 (Hp.out.A1 n) fB).mono ?_;rintro e w3 ⟨⟨t,rfl,d⟩,s⟩;have o:=A9 n s;have D:=AQ (R.out.A1 s);have T:=AQ (E.out.A1 s);clear s n R E;by_cases O:DE W;rotate_left
 ·obtain rfl:t=false:=BQ d O;have S:=AQ O;have cA:w3.cell? ⟨4,0,none⟩=some (Af (p 0)):=(HE.out.A1 o).cell 0 (by omega);clear d O;go_wp2;go_ret;exact⟨some 0,rfl,Or.inr (Or.inl ⟨M.out,Or.inl S.out,rfl⟩),o⟩
 obtain rfl:t=true:=d.2 O;have S:=AQ O;clear d O;obtain⟨⟨U,-⟩,⟨X,-⟩,⟨Y,-⟩,⟨Z,-⟩⟩:=D.out;go_wp2_with fail;clear U X Y Z;refine(zp _ z nx w3 (Hn.out.A1 o)).mono ?_;rintro e w4 ⟨⟨t,rfl,d⟩,u⟩;have G:=A9 o u;have pA:=AQ (D.out.A1 u);have aB:=AQ (T.out.A1 u);clear u o D T;by_cases l:∃i,i<z/\¬BX (nx i)
 ·obtain rfl:t=true:=d.2 l;have HN:=AQ l;have cA:w4.cell? ⟨4,0,none⟩=some (Af (p 0)):=(HE.out.A1 G).cell 0 (by omega);clear d l;go_wp2;go_ret;exact⟨some 0,rfl,Or.inr (Or.inl ⟨M.out,Or.inr HN.out,rfl⟩),G⟩
 obtain rfl:t=false:=BQ d l;have HN:=AQ l;clear d l;obtain⟨⟨U,-⟩,⟨X,-⟩,⟨Y,-⟩,⟨Z,-⟩⟩:=pA.out;go_wp2;clear U X Y Z
 go_loopw [23] (fun i wr=>∃k:Nat,k<=m/\i=A0 k/\(∀j,j<k->Q j)/\At wr (w.heap.size+1) (J) (v1) (A0 W.time) (A0 W.next) (K) (L)/\Below w.heap.size w wr) (fun i _=>m - (intOf i).toNat)
 case atStart=>exact⟨0,Nat.zero_le _,rfl,fun j hj=>absurd hj (Nat.not_lt_zero _),aB.out,G⟩
 case round=>
  obtain⟨k,hk,rfl,B,hX,C⟩:=hrel;have f:=AQ B;have cB:=AQ hX;clear B hX;by_cases y:k<m
  ·have bC:(k:Int)<(m:Int):=(by omega);obtain⟨b,off,rfl,q0,q1⟩:=(Hq.out.A1 C).cells y;have H:=AB wr (.cells #[.func (.func (g k)) #[] (P k),Af (p (ei k))] 61);have HV:=AQ (Ad.new wr (.func (.func (g k)) #[] (P k)) (Af (p (ei k))) 61);have F:=AQ (cB.out.A1 H);have x:=A9 C H;have e0:∀(args:Array Value) (w:World),(callFunc (g k) args).run Tryz.prog w = .ok (.enter (g k) args) w:=Hg.out k y;have eB:=fun (w:World) (a:Addr)=>run_store Tryz.prog w a (.func (.func (g k)) #[] (P k)) .plain rfl
   obtain⟨⟨z0,-⟩,⟨z1,-⟩⟩:=HV.out;obtain⟨x0,x1,x2,x3,x4,x5⟩:=F.out.c;go_wp2_with fail;clear x0 x1 x2 x3 x4 x5 z0 z1 q0 q1 eB;generalize wr.alloc (.cells #[.func (.func (g k)) #[] (P k),Af (p (ei k))] 61)=W5 at HV F x ⊢;generalize wr.heap.size=V at HV ⊢;refine(HQ.out k y W5 x S.out f.out).mono ?_;rintro e w6 ⟨⟨t,rfl,d⟩,v⟩;have aA:=A9 x v;have tA:=AQ (HV.out.A1 v);have bB:=AQ (F.out.A1 v);clear v x H e0;by_cases N:Q k
   ·obtain rfl:t=true:=d.2 N;have HF:=AQ N;clear d N;go_wp2;go_roundw
    case rel=>
     refine⟨k+1,by omega,by go_num,fun j hj=>?_,bB.out,aA⟩;by_cases e:j=k
     ·subst e;exact HF.out
     ·exact f.out j (by omega)
    case measure=>simp[intOf];omega
   ·obtain rfl:t=false:=BQ d N;have HF:=AQ N;clear d N;obtain⟨⟨z0,-⟩,⟨z1,-⟩⟩:=tA.out;go_wp2;go_ret;exact⟨some (ei k),rfl,Or.inr (Or.inr (Or.inl ⟨M.out,S.out,HN.out,k,y,HF.out,f.out,rfl⟩)),aA⟩
  ·obtain rfl:k=m:=(by omega);go_wp2;go_ret;exact⟨none,rfl,Or.inr (Or.inr (Or.inr ⟨M.out,S.out,HN.out,f.out,rfl⟩)),C⟩
theorem zCb(g:Nat)(D:Array Value)(z:Enters Tryz.prog g)(P:Nat->Prop)(v:Value)(n lo hi:Nat)(f:Nat->Aa)(w:World)(h:EE w lo hi v n f)(hn:n<=1000)
 (A:∀i,i<n->∀a c w',Below w.heap.size w w'->BG w' lo hi (.slice a (f i).dn c) (f i).dn (f i).ds (f i).db->Calls Tryz.prog g (#[.agg #[A0 (f i).id,.string (f i).name,.string (f i).set,A0 (f i).A8,A0 (f i).time,A0 (f i).rs,A0 (f i).rb,.slice a (f i).dn c]] ++ D) w' fun e x=>AJ (P i) e/\Below w'.heap.size w' x) :
 Calls Tryz.prog 152 #[v,.func (.func g) #[] D] w fun e w'=>((∃i:Nat,i<n/\P i/\(∀j,j<i->¬P j)/\e = .returned (A0 (i:Int)))\/((∀j,j<n->¬P j)/\e = .returned (A0 (-1))))/\Below w.heap.size w w':=by
 have F:=A4 h;obtain⟨-,a,c,rfl,-,-⟩:=h;have E:=A4 A;clear A;have e0:∀(args:Array Value) (w:World),(callFunc g args).run Tryz.prog w = .ok (.enter g args) w:=z;clear z;go_enter Tryz.func152,Tryz.ntmps152;go_wp2
 go_loopw [8] (fun i wr=>∃k:Nat,k<=n/\i=A0 k/\(∀j,j<k->¬P j)/\Below w.heap.size w wr) (fun i _=>n - (intOf i).toNat)
 case atStart=>exact⟨0,Nat.zero_le _,rfl,fun j B=>absurd B (Nat.not_lt_zero _),Below.refl _ _⟩
 case round=>
  obtain⟨k,Q,rfl,l,r⟩:=hrel;have d:=A4 l;clear l;by_cases m:k<n
  ·have C:(k:Int)<(n:Int):=(by omega);obtain⟨b,off,vd,rfl,hs⟩:=(F.out.A1 r).cells m;obtain⟨-,G,H,rfl,-,-⟩:=id hs.dead;have y:=A4 hs.dead;obtain⟨I,q1,J,K,L,M,N,O,-,-⟩:=hs;go_wp2_with fail;clear I q1 J K L M N O;refine(E.out k m G H wr r y.out).mono ?_;rintro e R ⟨⟨t,rfl,s⟩,p⟩;have q:=A9 r p;clear p y;by_cases o:P k
   ·obtain rfl:t=true:=s.2 o;have u:=A4 o;clear s o;go_wp2;go_ret;exact⟨Or.inl ⟨k,m,u.out,d.out,rfl⟩,q⟩
   ·obtain rfl:t=false:=BQ s o;have u:=A4 o;clear s o;go_wp2;go_roundw
    case rel=>
     refine⟨k+1,by omega,by go_num,fun j B=>?_,q⟩;by_cases e:j=k
     ·subst e;exact u.out
     ·exact d.out j (by omega)
    case measure=>simp[intOf];omega
  ·obtain rfl:k=n:=(by omega);go_wp2;go_ret;exact⟨Or.inr ⟨d.out,rfl⟩,r⟩
theorem zCF(g:Nat)(k:Array Value)(r:Enters Tryz.prog g)(P:Nat->Prop)(v:Value)(n lo hi:Nat)(f:Nat->Aa)(w:World)(h:EE w lo hi v n f)(hn:n<=1000)
 (m:∀i,i<n->∀a c w',Below w.heap.size w w'->BG w' lo hi (.slice a (f i).dn c) (f i).dn (f i).ds (f i).db->Calls Tryz.prog g (#[.agg #[A0 (f i).id,.string (f i).name,.string (f i).set,A0 (f i).A8,A0 (f i).time,A0 (f i).rs,A0 (f i).rb,.slice a (f i).dn c]] ++ k) w' fun e l=>AJ (P i) e/\Below w'.heap.size w' l) :
 Calls Tryz.prog 109 #[v,.func (.func g) #[] k] w fun e w'=>AJ (∃i,i<n/\P i) e/\Below w.heap.size w w':=by
 have q:=A4 h;have p:=A4 m;obtain⟨-,a,c,rfl,-,-⟩:=h;clear m;go_enter Tryz.func109,Tryz.ntmps109;go_wp2_with fail;refine(zCb g k r P _ n lo hi f w q.out hn p.out).mono ?_;rintro e u ⟨s,b⟩;rcases s with⟨i,hi,o,-,rfl⟩ | ⟨d,rfl⟩
 ·have j:=A4 (show ∃i,i<n/\P i from⟨i,hi,o⟩);have t:(0:Int)<=(i:Int):=(by omega);clear o;go_wp2;go_ret;exact⟨AJ.yes j.out,b⟩
 ·have j:=A4 d;clear d;go_wp2;go_ret;exact⟨AJ.no fun ⟨i,hi,hq⟩=>j.out i hi hq,b⟩
theorem zCI(g:Nat)(D:Array Value)(z:Enters Tryz.prog g)(P:Nat->Prop)(v:Value)(n lo hi:Nat)(f:Nat->Ab)(w:World)(h:EJ w lo hi v n f)(hn:n<=1000)
 (A:∀i,i<n->∀a c w',Below w.heap.size w w'->BG w' lo hi (.slice a (f i).dn c) (f i).dn (f i).ds (f i).db->Calls Tryz.prog g (#[.agg #[.string (f i).name,A0 (f i).origin,A0 (f i).A8,A0 (f i).rs,A0 (f i).rb,.slice a (f i).dn c]] ++ D) w' fun e x=>AJ (P i) e/\Below w'.heap.size w' x) :
 Calls Tryz.prog 81 #[v,.func (.func g) #[] D] w fun e w'=>((∃i:Nat,i<n/\P i/\(∀j,j<i->¬P j)/\e = .returned (A0 (i:Int)))\/((∀j,j<n->¬P j)/\e = .returned (A0 (-1))))/\Below w.heap.size w w':=by
 have F:=A4 h;obtain⟨-,a,c,rfl,-,-⟩:=h;have E:=A4 A;clear A;have e0:∀(args:Array Value) (w:World),(callFunc g args).run Tryz.prog w = .ok (.enter g args) w:=z;clear z;go_enter Tryz.func81,Tryz.ntmps81;go_wp2
 go_loopw [8] (fun i wr=>∃k:Nat,k<=n/\i=A0 k/\(∀j,j<k->¬P j)/\Below w.heap.size w wr) (fun i _=>n - (intOf i).toNat)
 case atStart=>exact⟨0,Nat.zero_le _,rfl,fun j B=>absurd B (Nat.not_lt_zero _),Below.refl _ _⟩
 case round=>
  obtain⟨k,N,rfl,l,r⟩:=hrel;have d:=A4 l;clear l;by_cases m:k<n
  ·have C:(k:Int)<(n:Int):=(by omega);obtain⟨b,off,vd,rfl,hs⟩:=(F.out.A1 r).cells m;obtain⟨-,G,H,rfl,-,-⟩:=id hs.dead;have y:=A4 hs.dead;obtain⟨I,q1,J,K,L,M,-,-⟩:=hs;go_wp2_with fail;clear I q1 J K L M;refine(E.out k m G H wr r y.out).mono ?_;rintro e O ⟨⟨t,rfl,s⟩,p⟩;have q:=A9 r p;clear p y;by_cases o:P k
   ·obtain rfl:t=true:=s.2 o;have u:=A4 o;clear s o;go_wp2;go_ret;exact⟨Or.inl ⟨k,m,u.out,d.out,rfl⟩,q⟩
   ·obtain rfl:t=false:=BQ s o;have u:=A4 o;clear s o;go_wp2;go_roundw
    case rel=>
     refine⟨k+1,by omega,by go_num,fun j B=>?_,q⟩;by_cases e:j=k
     ·subst e;exact u.out
     ·exact d.out j (by omega)
    case measure=>simp[intOf];omega
  ·obtain rfl:k=n:=(by omega);go_wp2;go_ret;exact⟨Or.inr ⟨d.out,rfl⟩,r⟩
theorem RU(a:Option Addr)(n c:Nat)(xs:List Value)(w:World)(G:xs.length=n*6)(m:∀u∈xs,u.oneCell'=true)(hn:n<=1048576)
 (E:0<n->∃b off,a=some ⟨b,off,none⟩/\∀j u,xs[j]?=some u->w.cell? ⟨b,off+j,none⟩=some u) :
 Calls Tryz.prog 116 #[.slice a n c] w fun e w'=>∃o,e = .returned o/\w'.ownsRow w.heap.size 46 6 o n xs/\Below w.heap.size w w'/\(n=0->∃a,o = .slice a 0 0):=by
 have D:Hid (0<n->∃b off,a=some ⟨b,off,none⟩/\∀j u,xs[j]?=some u->w.cell? ⟨b,off+j,none⟩=some u):=E;have x:Hid (xs.length=n*6/\∀u∈xs,u.oneCell'=true):=⟨G,m⟩;clear E G m;have J:=fun w=>Lib.run_eql_slice_nil (P:=Tryz.prog) w 27 46 a n c 0 0 (by kernel_rfl)
 cases a with
 | none=>
  have A:n=0:=by
   by_cases h:0<n
   ·obtain⟨b,off,y,_⟩:=D.out h;simp at y
   ·omega
  subst A;have B:xs = []:=List.eq_nil_of_length_eq_zero (by simpa using x.out.1);subst B;go_enter Tryz.func116,Tryz.ntmps116;go_wp2;go_ret;exact⟨_,rfl,World.ownsRow_nil _ _ _ _,Below.refl _ _,fun _=>⟨_,rfl⟩⟩
 | some ad=>
  obtain⟨i0,hi,t⟩:=Option.map_eq_some_iff.1 zEO;simp only[Prod.mk.injEq]at t;obtain⟨H,hs,s⟩:=t;have v:Hid (Tryz.prog.info? 46=some i0/\i0.zero=some (.agg #[.string ⟨#[]⟩,A0 0,A0 0,A0 0,A0 0,A5])/\i0.size=6/\i0.bytes=72):=⟨hi,H,hs,s⟩;have d:Hid ((w.alloc (.cells #[] 46)).ownsRow w.heap.size 46 6 (.slice (some ⟨w.heap.size,0,none⟩) 0 0) 0 []):=World.ownsRow_made w #[] 0 (Nat.le_refl _) (Nat.zero_le _) (by simp);clear hi H hs s;go_enter Tryz.func116,Tryz.ntmps116;go_wp2_with (first
   | (at_builtin;refine Jt rfl _ _ 27 rfl w.heap.size 46 i0 (.agg #[.string ⟨#[]⟩,A0 0,A0 0,A0 0,A0 0,A5]) 6 72 (by kernel_rfl) v.out.1 v.out.2.1 v.out.2.2.1 v.out.2.2.2 rfl (by decide) _ _ _ rfl d.out (some ad) n c xs rfl x.out.1 x.out.2 ?c1 ?c3 ?c4 ?c5 ?_))
  case c1=>
   intro I;obtain⟨b,off,y,f⟩:=D.out I;exact⟨b,off,y,fun j u F=>(((Below.refl _ _).alloc (Nat.le_refl _) _).cell (AV (f j u F))).trans (f j u F)⟩
  case c3=>unfold maxLen;omega
  case c4=>omega
  case c5=>simp
  intro o C i g l;have z:Below w.heap.size w C:=((Below.refl _ _).alloc (Nat.le_refl _) _).grown g (by simp) (fun q K=>by have:=d.out.lt q K;omega);have k:C.ownsRow w.heap.size 46 6 o n xs:=(by simpa using i);have p:Hid (C.ownsRow w.heap.size 46 6 o n xs):=k;have r:Hid (n=0->o = .slice (some ⟨w.heap.size,0,none⟩) 0 0):=l;clear i k g l;go_wp2;go_ret;exact⟨o,rfl,p.out,z,fun e=>⟨_,r.out e⟩⟩
theorem Ol(a:Option Addr)(n c:Nat)(xs:List Value)(w:World)(G:xs.length=n*8)(m:∀u∈xs,u.oneCell'=true)(hn:n<=1048576)
 (E:0<n->∃b off,a=some ⟨b,off,none⟩/\∀j u,xs[j]?=some u->w.cell? ⟨b,off+j,none⟩=some u) :
 Calls Tryz.prog 117 #[.slice a n c] w fun e w'=>∃o,e = .returned o/\w'.ownsRow w.heap.size 41 8 o n xs/\Below w.heap.size w w'/\(n=0->∃a,o = .slice a 0 0):=by
 have D:Hid (0<n->∃b off,a=some ⟨b,off,none⟩/\∀j u,xs[j]?=some u->w.cell? ⟨b,off+j,none⟩=some u):=E;have x:Hid (xs.length=n*8/\∀u∈xs,u.oneCell'=true):=⟨G,m⟩;clear E G m;have J:=fun w=>Lib.run_eql_slice_nil (P:=Tryz.prog) w 28 41 a n c 0 0 (by kernel_rfl)
 cases a with
 | none=>
  have A:n=0:=by
   by_cases h:0<n
   ·obtain⟨b,off,y,_⟩:=D.out h;simp at y
   ·omega
  subst A;have B:xs = []:=List.eq_nil_of_length_eq_zero (by simpa using x.out.1);subst B;go_enter Tryz.func117,Tryz.ntmps117;go_wp2;go_ret;exact⟨_,rfl,World.ownsRow_nil _ _ _ _,Below.refl _ _,fun _=>⟨_,rfl⟩⟩
 | some ad=>
  obtain⟨i0,hi,t⟩:=Option.map_eq_some_iff.1 Xb;simp only[Prod.mk.injEq]at t;obtain⟨H,hs,s⟩:=t;have v:Hid (Tryz.prog.info? 41=some i0/\i0.zero=some (.agg #[A0 0,.string ⟨#[]⟩,.string ⟨#[]⟩,A0 0,A0 0,A0 0,A0 0,A5])/\i0.size=8/\i0.bytes=96):=⟨hi,H,hs,s⟩;have d:Hid ((w.alloc (.cells #[] 41)).ownsRow w.heap.size 41 8 (.slice (some ⟨w.heap.size,0,none⟩) 0 0) 0 []):=World.ownsRow_made w #[] 0 (Nat.le_refl _) (Nat.zero_le _) (by simp);clear hi H hs s;go_enter Tryz.func117,Tryz.ntmps117;go_wp2_with (first
   | (at_builtin;refine Jt rfl _ _ 28 rfl w.heap.size 41 i0 (.agg #[A0 0,.string ⟨#[]⟩,.string ⟨#[]⟩,A0 0,A0 0,A0 0,A0 0,A5]) 8 96 (by kernel_rfl) v.out.1 v.out.2.1 v.out.2.2.1 v.out.2.2.2 rfl (by decide) _ _ _ rfl d.out (some ad) n c xs rfl x.out.1 x.out.2 ?c1 ?c3 ?c4 ?c5 ?_))
  case c1=>
   intro I;obtain⟨b,off,y,f⟩:=D.out I;exact⟨b,off,y,fun j u F=>(((Below.refl _ _).alloc (Nat.le_refl _) _).cell (AV (f j u F))).trans (f j u F)⟩
  case c3=>unfold maxLen;omega
  case c4=>omega
  case c5=>simp
  intro o C i g l;have z:Below w.heap.size w C:=((Below.refl _ _).alloc (Nat.le_refl _) _).grown g (by simp) (fun q K=>by have:=d.out.lt q K;omega);have k:C.ownsRow w.heap.size 41 8 o n xs:=(by simpa using i);have p:Hid (C.ownsRow w.heap.size 41 8 o n xs):=k;have r:Hid (n=0->o = .slice (some ⟨w.heap.size,0,none⟩) 0 0):=l;clear i k g l;go_wp2;go_ret;exact⟨o,rfl,p.out,z,fun e=>⟨_,r.out e⟩⟩
theorem ZL(v:Value)(n lo hi:Nat)(f g:Nat->Int)(w:World)(S:BG w lo hi v n f g)(hn:n<=1048576) :
 Calls Tryz.prog 118 #[v] w fun e w'=>(∃y x,e = .returned y/\CN w' 38 2 y n/\CS w' x y n f g/\(0<n->w.heap.size<=x/\x<w'.heap.size))/\Below w.heap.size w w':=by
 obtain⟨Q,a,c,rfl,X,L⟩:=S;have G:Hid (0<n->∃b off,a=some ⟨b,off,none⟩/\lo<=b/\b<hi/\∀i,i<n->w.cell? ⟨b,off+i*2,none⟩=some (A0 (f i))/\w.cell? ⟨b,off+i*2+1,none⟩=some (A0 (g i))):=L;have R:Hid (n<=maxLen):=Q;clear L Q;have V:=fun w=>Lib.run_eql_slice_nil (P:=Tryz.prog) w 39 38 a n c 0 0 (by kernel_rfl)
 cases a with
 | none=>
  have J:n=0:=by
   by_cases h:0<n
   ·obtain⟨b,off,r,_⟩:=G.out h;simp at r
   ·omega
  subst J;go_enter Tryz.func118,Tryz.ntmps118;go_wp2;go_ret;exact⟨⟨_,0,rfl,Or.inl ⟨rfl,_,rfl⟩,⟨Nat.zero_le _,none,0,rfl,Nat.le_refl _,fun h=>absurd h (Nat.lt_irrefl _)⟩,fun h=>absurd h (Nat.lt_irrefl _)⟩,Below.refl _ _⟩
 | some ad=>
  obtain⟨i0,hi,C⟩:=Option.map_eq_some_iff.1 Lv;simp only[Prod.mk.injEq]at C;obtain⟨O,hs,B⟩:=C;have t:∀(w':World),Below w.heap.size w w'->∀j u,(kc f g n)[j]?=some u->w'.cell? (ad.add j)=some u:=fun w' T j u F=>by
   by_cases A:0<n
   ·obtain⟨b,off,r,_,_,U⟩:=G.out A;simp only[Option.some.injEq]at r;subst r;have:=Uc U j u F;have l:(⟨b,off,none⟩:Addr).add j=⟨b,off+j,none⟩:=(by unfold Addr.add;split<;>simp_all);rw[l]at this ⊢;exact(T.cell (AV this)).trans this
   ·obtain rfl:n=0:=(by omega);simp[kc]at F
  have z:Hid (∀(w':World),Below w.heap.size w w'->∀j u,(kc f g n)[j]?=some u->w'.cell? (ad.add j)=some u):=t;have E:Hid (Tryz.prog.info? 38=some i0/\i0.zero=some (.agg #[A0 0,A0 0])/\i0.size=2/\i0.bytes=16):=⟨hi,O,hs,B⟩;have p:(w.alloc (.cells #[] 38)).ownsRow w.heap.size 38 2 (.slice (some ⟨w.heap.size,0,none⟩) 0 0) 0 []:=World.ownsRow_made w #[] 0 (Nat.le_refl _) (Nat.zero_le _) (by simp);have k:Hid ((w.alloc (.cells #[] 38)).ownsRow w.heap.size 38 2 (.slice (some ⟨w.heap.size,0,none⟩) 0 0) 0 []):=p;clear hi O hs B t p;go_enter Tryz.func118,Tryz.ntmps118;go_wp2_with (first
   | (at_builtin;refine Jt rfl _ _ 39 rfl w.heap.size 38 i0 (.agg #[A0 0,A0 0]) 2 16 (by kernel_rfl) E.out.1 E.out.2.1 E.out.2.2.1 E.out.2.2.2 rfl (by decide) _ _ _ rfl k.out (some ad) n c (kc f g n) rfl (KI f g n) (Zq f g n) ?c1 ?c3 ?c4 ?c5 ?_))
  case c1=>
   intro A;obtain⟨b,off,r,_,_,_⟩:=G.out A;simp only[Option.some.injEq]at r;refine⟨b,off,by rw[r],fun j u F=>?_⟩;have:=z.out _ ((Below.refl _ _).alloc (Nat.le_refl _) (.cells #[] 38)) j u F;have l:(⟨b,off,none⟩:Addr).add j=⟨b,off+j,none⟩:=(by unfold Addr.add;split<;>simp_all);rw[r,l]at this;exact this
  case c3=>unfold maxLen;omega
  case c4=>omega
  case c5=>simp
  intro y D o m s;have I:Below w.heap.size w D:=((Below.refl _ _).alloc (Nat.le_refl _) _).grown m (by simp) (fun q W=>by have:=k.out.lt q W;omega);have d:D.ownsRow w.heap.size 38 2 y n (kc f g n):=(by simpa using o);obtain⟨x,N,M⟩:=Yv R.out d;have H:Hid (CN D 38 2 y n):=J8 d (fun A=>⟨_,s A⟩);have K:Hid (CS D x y n f g/\(0<n->w.heap.size<=x/\x<D.heap.size)):=⟨N,M⟩;clear N M o d m s;go_wp2;go_ret;exact⟨⟨y,x,rfl,H.out,K.out.1,K.out.2⟩,I⟩
end Go.Proofs.YtddigaohmfpepaaGreatDoor
