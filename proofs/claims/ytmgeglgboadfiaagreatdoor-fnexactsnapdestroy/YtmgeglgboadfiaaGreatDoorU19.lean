/- A part of the proof. -/
import Derived.Test.YtmgeglgboadfiaaGreatDoorU18
set_option linter.unusedVariables false
set_option maxRecDepth 20000
set_option maxHeartbeats 4000000
namespace Go.Proofs.YtmgeglgboadfiaaGreatDoor
open Go.RowKit
theorem zNo{w9:World}{bn off cn n k:Nat}{kb:Nat->Nat}{kv:Nat->Value}{f:Nat->zY}(hm:n<=maxLen)(fA:n<=cn)(hk:k<n)(hc:∀i,i<n - 1->∀r,r<8->zQ w9 bn (off+i*8+r) (cellSnap (del f k) (del kv k) i r))(hd:∀i,i<n->i≠k->zj w9 (kb i) (kv i) (f i).dn (f i).ds (f i).db/\((f i).name.size<=maxLen/\(f i).set.size<=maxLen)/\(0<(f i).dn->kb i≠bn))(eA:∀i j,i<n->j<n->i≠k->j≠k->i≠j->0<(f i).dn->0<(f j).dn->kb i≠kb j) :
  qI w9 bn (del kb k) (del kv k) (.slice (some ⟨bn,off,none⟩) (n - 1) cn) (n - 1) (del f k)/\qw (del kb k) (n - 1) (del f k)/\∀j,yq bn (del kb k) (n - 1) (del f k) j->SdR bn kb k n f j:=by
 have key:∀i,i<n - 1->∃i',i'<n/\i'≠k/\del kb k i=kb i'/\del kv k i=kv i'/\del f k i=f i'/\i'=(if i<k then i else i+1):=fun i hi=>by
  by_cases e:i<k
  ·exact⟨i,by omega,by omega,if_pos e,if_pos e,if_pos e,by rw[if_pos e]⟩
  ·exact⟨i+1,by omega,by omega,if_neg e,if_neg e,if_neg e,by rw[if_neg e]⟩
 refine⟨⟨by omega,_,_,rfl,by omega,fun _=>⟨off,rfl,fun i hi=>?_⟩⟩,fun i j hi hj gA h1 h2=>?_,?_⟩
 ·have aA:=hc i hi;obtain⟨i',bA,jA,e1,e2,e3,-⟩:=key i hi;have h:=hd i' bA jA;refine⟨aA 0 (by omega),aA 1 (by omega),aA 2 (by omega),aA 3 (by omega),aA 4 (by omega),aA 5 (by omega),aA 6 (by omega),aA 7 (by omega),?_,?_,?_⟩
  ·rw[e1,e2,e3];exact h.1
  ·rw[e3];exact h.2.1
  ·rw[e1,e3];exact h.2.2
 ·obtain⟨i',bA,n1,e1,-,e3,f1⟩:=key i hi;obtain⟨j',iA,n2,cA,-,dA,f2⟩:=key j hj;rw[e1,cA];rw[e3]at h1;rw[dA]at h2;refine eA i' j' bA iA n1 n2 (fun e=>gA ?_) h1 h2;rw[f1,f2]at e;split at e<;>split at e<;>omega
 ·rintro j (⟨h0,rfl⟩ | ⟨i,hi,h0,rfl⟩)
  ·exact Or.inl rfl
  ·obtain⟨i',bA,n1,e1,-,e3,-⟩:=key i hi;rw[e3]at h0;exact Or.inr ⟨i',bA,n1,h0,e1⟩
theorem zIk(p:Nat->Addr)(C k:Nat)(z0 z1 z2 z3:Value)(W:zE)(x:Int)(o:zAk)(w:World)(hI:yk W)(ht:zA8 (zK W (W.zPD k).zPH).time)(hx:(Lit.int .i64 (W.zPD k).zPH).wf=true)(kG:(Lit.int .i64 x).wf=true)(hk:qM W x k)(pE:(W.zPD k).dn<=1048576)(hO:(∃i,zBb W x i/\o=⟨zG0 W k i,0,((zCQ W k i).length:Int),0⟩)\/∃i,zBc W x i/\o=⟨zG1 W k i,0,((zCR W k i).length:Int),0⟩)
  (gE:∀i,i<W.pn->qN (W.zPD i).dn (W.zPD i).ds (W.zPD i).db/\yN W.zPE (zy (W.zPD i).ds (W.zPD i).db (zK W (W.zPD k).zPH).time (W.zPD i).dn)) (iE:∀i,i<W.sn->qN (W.zPG i).dn (W.zPG i).ds (W.zPG i).db/\yN W.zPE (zy (W.zPG i).ds (W.zPG i).db (zK W (W.zPD k).zPH).time (W.zPG i).dn)) (dI:C<w.heap.size)
  (ho:qV w (C+1) w.heap.size z0 z1 z2 z3 W) (hC:yM w C z0 z1 (.int .i64 W.time) (.int .i64 W.next) z2 z3 (.int .i64 0) (.int .i64 0) .nilIface) :
  Calls Tryz.prog 58 #[.pointer (some ⟨C,0,none⟩),.int .i64 x] w (zLd p o C w):=by
 have h8:=hI.zPL.zPG.1;have nD:=hI.zPL.zPD.1;have vA:=hk.1;have cA:0<W.sn:=by
  obtain⟨j,hj,-⟩:=(hI.zPL.zPD.2.1 k vA).1;omega
 obtain⟨P,Q,R,jA,bB⟩:=ho;have sB:zd w (C+1) w.heap.size z0 z1 z2 z3 W:=qP.at ⟨P,Q,R,jA.isIn,bB⟩;have HP:=zB jA.zPE;have lD:=zB (⟨jA.pq,jA.pr,jA.qr⟩:(∀j,P j->¬Q j)/\(∀j,P j->¬R j)/\∀j,Q j->¬R j);obtain⟨sb,ub,uv,hS,jE,rC,-,-⟩:=jA.zPG;obtain⟨so,sc,rfl,-⟩:=hS.nth cA;obtain⟨bn,kb,kv,hN,tF,vF,-,aG⟩:=jA.zPD;obtain⟨fG,na,cn,rfl,vB,jG⟩:=id hN;obtain⟨off,rfl,-⟩:=jG (by omega);obtain⟨g,hg⟩:∃g,g=W.zPD k:=⟨_,rfl⟩;have HA:=zB (show SdA w C k bn off cn W P Q R kb kv from⟨hN,tF,vF,lD.out.1,lD.out.2.1,lD.out.2.2,bB,vA⟩);have aD:=(HA.out.rows.nthE vA).zPK;obtain⟨-,ga,gc,cD,-,-⟩:=id aD;have rD:=aG k vA;rw[cD]at aD rD;rw[<-hg]at aD rD cD ht hx pE gE iE;have kF:=zB aD;have jF:=zB rD;have lF:=zB cD;have HG:=zB hg;have HI:=zB hI;have Ht:=zB ht;have Hx:=zB hx;have HK:=zB hk;have HO:=zB hO;have nB:=zB gE;have oB:=zB iE;have iF:=zB sB;have HC:=zB hC;have nF:=zB hS;have vG:=zB jE;have oF:=zB rC;have mF:=zB (show yo w Q (.slice (some ⟨sb,so,none⟩) W.sn sc) W.sn W.zPG from⟨sb,ub,uv,hS,jE,rC⟩);have aH:=zB (show ∀i,i<W.sn->yR w sb (so+i*6) (ub i) (uv i) (W.zPG i)from fun i hi=>by
  obtain⟨cC,c',ev,hx⟩:=hS.nth hi;simp only[Value.slice.injEq,Option.some.injEq,Addr.mk.injEq,and_true,true_and]at ev;obtain⟨rfl,rfl⟩:=ev;exact hx)
 have iH:=bB _ (Or.inr (Or.inr HA.out.inB));have mH:=bB _ (Or.inr (Or.inl (rC _ (Or.inl ⟨cA,rfl⟩))));have vH:bn≠sb:=fun e=>lD.out.2.2 sb (rC _ (Or.inl ⟨cA,rfl⟩)) (by rw[<-e];exact HA.out.inB)
 have gH:=zC w (.cells #[.pointer (some ⟨C,0,none⟩)] 78);have cG:=zC (w.alloc (.cells #[.pointer (some ⟨C,0,none⟩)] 78)) (.cells #[.int .i64 x] 2);have lC:=zA gH cG;have lG:(w.alloc (.cells #[.pointer (some ⟨C,0,none⟩)] 78)).heap.size=w.heap.size+1:=World.size_alloc _ _;have nH:((w.alloc (.cells #[.pointer (some ⟨C,0,none⟩)] 78)).alloc (.cells #[.int .i64 x] 2)).heap.size=w.heap.size+2:=by rw[World.size_alloc,lG]
 have cP:((w.alloc (.cells #[.pointer (some ⟨C,0,none⟩)] 78)).alloc (.cells #[.int .i64 x] 2)).cell? ⟨w.heap.size,0,none⟩=some (.pointer (some ⟨C,0,none⟩)):=by
  have c0:(w.alloc (.cells #[.pointer (some ⟨C,0,none⟩)] 78)).cell? ⟨w.heap.size,0,none⟩=some (.pointer (some ⟨C,0,none⟩)):=World.cell?_alloc_at _ _ _ _ rfl;exact(cG.cell (zD c0)).trans c0
 have cI:((w.alloc (.cells #[.pointer (some ⟨C,0,none⟩)] 78)).alloc (.cells #[.int .i64 x] 2)).cell? ⟨w.heap.size+1,0,none⟩=some (.int .i64 x):=by
  have:((w.alloc (.cells #[.pointer (some ⟨C,0,none⟩)] 78)).alloc (.cells #[.int .i64 x] 2)).cell? ⟨(w.alloc (.cells #[.pointer (some ⟨C,0,none⟩)] 78)).heap.size,0,none⟩=some (.int .i64 x):=World.cell?_alloc_at _ _ _ _ rfl
  rwa [lG]at this
 have jD:=zB cP;have iD:=zB cI;have fC:=zB (zKr C (C+1) w.heap.size k cn kv ga gc z0 z1 (.slice (some ⟨sb,so,none⟩) W.sn sc) (.int .i64 0) (.int .i64 0) .nilIface (some ⟨bn,off,none⟩) W x ((w.alloc (.cells #[.pointer (some ⟨C,0,none⟩)] 78)).alloc (.cells #[.int .i64 x] 2)) (sB.zO9 lC) (fun i hi=>⟨bn,off,rfl,((HA.out.rows.nthE hi).cells (fun h0=>bB _ (Or.inr (Or.inr (HA.out.inK hi h0).1)))).zO9 lC⟩) (hC.zO9 lC) hk (by rw[<-hg];exact cD) nD hI.zPL.idsWf hI.zPL.dist kG);rw[<-hg]at fC;unfold qX at fC;have kH:∀(fn:Fn) (first cap:Array Value) (w:World),(Instr.makeFunc fn first cap).run Tryz.prog w = .ok (.func fn first cap) w:=fun _ _ _ _=>rfl
 clear jA hS jE rC hN tF vF aG hC hI ht hx kG hk hO gE iE sB jG aD rD cD hg bB;go_enter Tryz.func58,Tryz.ntmps58;go_wp2_with fail;clear cP cI;generalize ((w.alloc (.cells #[.pointer (some ⟨C,0,none⟩)] 78)).alloc (.cells #[.int .i64 x] 2))=w2 at lC nH jD iD fC ⊢;refine fC.out.mono ?_;clear fC;rintro e wA ⟨rfl,nE⟩;have pH:=nE.size;have mE:=zC wA (.cells #[.int .i64 g.id,.string g.name,.string g.set,.int .i64 g.zPH,.int .i64 g.time,.int .i64 g.rs,.int .i64 g.rb,.slice ga g.dn gc] 99);have cB:=zA nE mE;have pB:=zA lC cB;have gB:=zB (yx.new wA (.int .i64 g.id) (.string g.name) (.string g.set) (.int .i64 g.zPH) (.int .i64 g.time) (.int .i64 g.rs) (.int .i64 g.rb) (.slice ga g.dn gc) 99);have mG:(wA.alloc (.cells #[.int .i64 g.id,.string g.name,.string g.set,.int .i64 g.zPH,.int .i64 g.time,.int .i64 g.rs,.int .i64 g.rb,.slice ga g.dn gc] 99)).heap.size=wA.heap.size+1:=World.size_alloc _ _;have lA:=zB ((cB.cell (zD jD.out)).trans jD.out);have aB:=zB ((cB.cell (zD iD.out)).trans iD.out);have cP:=lA.out;have c5:=(HC.out.zO9 pB).2.2.2.2.2.1.1;go_wp2_with fail;clear cP c5 jD iD;generalize (wA.alloc (.cells #[.int .i64 g.id,.string g.name,.string g.set,.int .i64 g.zPH,.int .i64 g.time,.int .i64 g.rs,.int .i64 g.rb,.slice ga g.dn gc] 99))=w3 at mE cB pB gB mG lA aB ⊢;obtain⟨G,hG⟩:∃G,G=wA.heap.size:=⟨_,rfl⟩;rw[<-hG]at gB pH mG ⊢;clear hG mE cB nE
 go_loopw [20] (fun sH wr=>∃i:Nat,i<=W.pn/\sH = .int .i64 i/\((Below w3.heap.size w3 wr/\∀i0,zBb W x i0->i<=i0)\/∃i0,zBb W x i0/\i0<i/\SdE w wr C w.heap.size (w.heap.size+1) k bn off cn (.slice (some ⟨sb,so,none⟩) W.sn sc) W x (zq W.zPE (zCQ W k i0)) ((zCQ W k i0).length:Int) W.zPG (zCP W k i0))) (fun i _=>W.pn - (intOf i).toNat)
 case atStart=>exact⟨0,Nat.zero_le _,rfl,Or.inl ⟨Below.refl _ _,fun _ _=>Nat.zero_le _⟩⟩
 case round=>
  obtain⟨i,aI,rfl,eA⟩:=hrel;by_cases aA:i<W.pn
  ·have tA:(i:Int)<(W.pn:Int):=(by omega);by_cases hq:(W.zPD i).zPH=x
   ·have oD:zBb W x i:=by
     rcases HO.out with⟨i1,h1,-⟩ | ⟨i1,h1,-⟩
     ·by_cases e:i=i1
      ·rw[e];exact h1
      ·exact absurd hq (h1.2.2.1 i aA e)
     ·exact absurd hq (h1.2.2.2 i aA)
    have lB:Below w3.heap.size w3 wr:=by
     rcases eA with h | ⟨i0,h0,h1,-⟩
     ·exact h.1
     ·exact absurd hq (h0.2.2.1 i aA (by omega))
    clear eA;have mC:=zA pB lB;have nG:=lB.size;have cA:=(HA.out.rows.nthE aA).zO9 mC;obtain⟨S4,rA⟩:∃S4,S4=W.zPD i:=⟨_,rfl⟩;rw[<-rA]at cA hq;obtain⟨-,ad,cd,oA,-,-⟩:=id cA.zPK;have bC:=cA.zPK.at (lo:=0) (hi:=wr.heap.size) (fun h0=>⟨Nat.zero_le _,cA.deadLt h0⟩);rw[oA]at bC;obtain⟨q0,-⟩:=cA.c0;obtain⟨q1,-⟩:=cA.c1;obtain⟨q2,-⟩:=cA.c2;obtain⟨q3,-⟩:=cA.c3;obtain⟨q4,-⟩:=cA.c4;obtain⟨q5,-⟩:=cA.c5;obtain⟨q6,-⟩:=cA.c6;obtain⟨q7,-⟩:=cA.c7;rw[oA]at q7;have dE:=zB bC;have nA:=zB rA;have HQ:=zB hq;have a1:(S4.zPH == x)=true:=beq_iff_eq.2 hq;have gA:=zC wr (.cells #[.int .i64 S4.id,.string S4.name,.string S4.set,.int .i64 S4.zPH,.int .i64 S4.time,.int .i64 S4.rs,.int .i64 S4.rb,.slice ad S4.dn cd] 99);have HX:=zB (yx.new wr (.int .i64 S4.id) (.string S4.name) (.string S4.set) (.int .i64 S4.zPH) (.int .i64 S4.time) (.int .i64 S4.rs) (.int .i64 S4.rb) (.slice ad S4.dn cd) 99);have bF:(wr.alloc (.cells #[.int .i64 S4.id,.string S4.name,.string S4.set,.int .i64 S4.zPH,.int .i64 S4.time,.int .i64 S4.rs,.int .i64 S4.rb,.slice ad S4.dn cd] 99)).heap.size=wr.heap.size+1:=World.size_alloc _ _;have pA:(wr.alloc (.cells #[.int .i64 S4.id,.string S4.name,.string S4.set,.int .i64 S4.zPH,.int .i64 S4.time,.int .i64 S4.rs,.int .i64 S4.rb,.slice ad S4.dn cd] 99)).cell? ⟨w.heap.size+1,0,none⟩=some (.int .i64 x):=((zA lB gA).cell (zD aB.out)).trans aB.out;obtain⟨⟨⟨y0,-⟩,⟨y1,-⟩,⟨y2,-⟩,⟨y3,-⟩⟩,⟨y4,-⟩,⟨y5,-⟩,⟨y6,-⟩,⟨y7,-⟩⟩:=HX.out;clear cA oA bC rA hq;go_upto_region 7 with fail;clear q0 y0 q1 y1 q2 y2 q3 y3 q4 y4 q5 y5 q6 y6 q7 y7 a1 pA;generalize (wr.alloc (.cells #[.int .i64 S4.id,.string S4.name,.string S4.set,.int .i64 S4.zPH,.int .i64 S4.time,.int .i64 S4.rs,.int .i64 S4.rb,.slice ad S4.dn cd] 99))=w5 at gA HX bF ⊢;have fE:=zA mC gA;have tB:=zA lB gA;have jH:S4.dn<=200:=(by rw[nA.out];exact(nB.out i aA).1.1);have mA:Below w5.heap.size w5 w5.drew:=(Below.refl _ _).drew;have iA:=zA fE mA;have bA:=zA tB mA;have tD:=zB (show(fun w':World=>w'.cell? ⟨w.heap.size,0,none⟩=some (.pointer (some ⟨C,0,none⟩))/\w'.cell? ⟨C,5,none⟩=some (.slice (some ⟨bn,off,none⟩) W.pn cn)/\w'.cell? ⟨G,3,none⟩=some (.int .i64 g.zPH)/\w'.cell? ⟨wr.heap.size,7,none⟩=some (.slice ad S4.dn cd)) w5.drew from⟨(bA.cell (zD lA.out)).trans lA.out,(HC.out.zO9 iA).2.2.2.2.2.1.1,(gB.out.zO9 bA).1.2.2.2.1,(HX.out.zO9 mA).2.2.2.2.1⟩);refine wp_region_held_drew (S:=(fun w':World=>w'.cell? ⟨w.heap.size,0,none⟩=some (.pointer (some ⟨C,0,none⟩))/\w'.cell? ⟨C,5,none⟩=some (.slice (some ⟨bn,off,none⟩) W.pn cn)/\w'.cell? ⟨G,3,none⟩=some (.int .i64 g.zPH)/\w'.cell? ⟨wr.heap.size,7,none⟩=some (.slice ad S4.dn cd))) (by kernel_rfl) tD.out (fun hHeld=>?_);have eD:w5.drew.heap.size=w5.heap.size:=rfl;have jC:=zB (HX.out.zO9 mA);have iC:=zB (dE.out.zO9 (zA gA mA));generalize w5.drew=q0 at hHeld iA bA eD jC iC ⊢;refine tk 0 (h:=tk 1 (h:=tk 2 (h:=tk 3 (h:=tk 4 (h:=tk 5 (h:=tk 6 (h:=tk 7 (h:=tk 8 (h:=tk 9 (h:=tk 10 (h:=tk 11 (h:=tk 12 (h:=tk 13 (h:=tk 14 (h:=tk 15 (h:=tk 16 (h:=?_)))))))))))))))));refine rd [17] (rc (fun K hK=>?_) .nil);go_simp;go_at_call 125;refine(zJx C G w.heap.size (kb k) 0 wr.heap.size S4.dn P _ _ _ _ _ ga gc 0 W g S4.ds S4.db q0 ((iF.out.zO9 iA).wide (Nat.zero_le _) iA.size) nD HI.out.zPL.idsWf HI.out.zPL.dist Hx.out Ht.out (HC.out.zO9 iA) (HP.out.zO9 iA) (fun j hj=>by have:=HA.out.lt j (Or.inl hj);omega) ⟨(gB.out.zO9 bA).1.2.2.2.1,(gB.out.zO9 bA).2.2.2.2.1,(bA.cell (zD lA.out)).trans lA.out⟩ ⟨by omega,by omega⟩ (fun h0=>?_) (kF.out.zO9 iA) (jF.out.zO9 iA) pE iC.out (by rw[nA.out];exact(nB.out i aA).1) (by rw[nA.out];exact(nB.out i aA).2) (by omega) (by omega)).mono ?_
    ·have:=HA.out.lt _ (Or.inr (Or.inr (HA.out.inK vA (by rw[<-HG.out];exact h0)).1));exact⟨by omega,by omega,by omega,by omega,fun hp=>HA.out.pr _ hp (HA.out.inK vA (by rw[<-HG.out];exact h0)).1⟩
    obtain⟨OL,kB⟩:∃OL,OL=zAJ S4.ds S4.db (zK W g.zPH).time S4.dn:=⟨_,rfl⟩;rw[<-kB];rintro e w7 ⟨na,nc,nb,y0,y1,gF,rfl,dB,tE,vE,dD,jB,nC,sA,kA⟩;have oH:=sA.size;have bD:∀j,(0<g.dn/\j=kb k)->R j/\j≠bn:=fun j hj=>by rw[hj.2];exact HA.out.inK vA (by rw[<-HG.out];exact hj.1)
    have eB:∀j,w.heap.size<=j->¬(j=C\/(0<g.dn/\j=kb k)):=fun j hj e=>by
     rcases e with e | e
     ·omega
     ·have:=HA.out.lt j (Or.inr (Or.inr (bD j e).1));omega
    have dA:(fun w':World=>w'.cell? ⟨w.heap.size,0,none⟩=some (.pointer (some ⟨C,0,none⟩))/\w'.cell? ⟨C,5,none⟩=some (.slice (some ⟨bn,off,none⟩) W.pn cn)/\w'.cell? ⟨G,3,none⟩=some (.int .i64 g.zPH)/\w'.cell? ⟨wr.heap.size,7,none⟩=some (.slice ad S4.dn cd)) w7:=⟨(sA.cell (o:=0) (show w.heap.size<q0.heap.size by omega) (eB _ (Nat.le_refl _))).trans ((bA.cell (zD lA.out)).trans lA.out),jB.2.2.2.2.2.1.1,(sA.cell (o:=3) (show G<q0.heap.size by omega) (eB _ (by omega))).trans (gB.out.zO9 bA).1.2.2.2.1,(sA.cell (o:=7) (show wr.heap.size<q0.heap.size by omega) (eB _ (by omega))).trans jC.out.2.2.2.2.1⟩;have HN:=zB (show SdN w q0 w7 C w.heap.size (w.heap.size+1) k bn off cn nb gF y0 y1 (.slice (some ⟨sb,so,none⟩) W.sn sc) (.slice na (g.dn+OL.length) nc) W x ((sdY W (W.zPD k) (W.zPD i).dn (W.zPD i).ds (W.zPD i).db).length:Int) P kb kv (zq W.zPE (sdY W (W.zPD k) (W.zPD i).dn (W.zPD i).ds (W.zPD i).db)) (sdD W (W.zPD k) (W.zPD i).dn (W.zPD i).ds (W.zPD i).db)from by
     have e1:sdD W (W.zPD k) (W.zPD i).dn (W.zPD i).ds (W.zPD i).db=qu g.dn g.ds g.db ++ OL:=(by unfold sdD sdO;rw[<-nA.out,<-HG.out,kB]);have e2:sdY W (W.zPD k) (W.zPD i).dn (W.zPD i).ds (W.zPD i).db=zy S4.ds S4.db (zK W g.zPH).time S4.dn:=(by unfold sdY;rw[<-nA.out,<-HG.out]);rw[e1,e2];rw[Int.zero_add]at jB;refine⟨iA,jB,dA.1,(sA.cell (o:=0) (show w.heap.size+1<q0.heap.size by omega) (eB _ (by omega))).trans ((bA.cell (zD aB.out)).trans aB.out),⟨Nat.le_refl _,by omega⟩,nC,by rw[<-HG.out];exact sA,tE,vE,dB,fun h0=>?_,by rw[<-HG.out,lF.out];exact kA⟩;rw[<-HG.out];exact dD (by rw[List.length_append,qq]at h0;exact h0))
    have mB:=HA.out.snap HN.out aA;obtain⟨m3,dF⟩:=mB.c3;obtain⟨m7,gD⟩:=mB.c7;obtain⟨rH,sE⟩:∃u,kv i=u:=⟨_,rfl⟩;obtain⟨-,ak,ck,kC,-,-⟩:=mB.zPK;rw[kC]at m7;have tA:(i:Int)<(W.pn:Int):=(by omega);have fA:(fun w':World=>w'.cell? ⟨w.heap.size,0,none⟩=some (.pointer (some ⟨C,0,none⟩))/\w'.cell? ⟨C,5,none⟩=some (.slice (some ⟨bn,off,none⟩) W.pn cn)/\w'.cell? ⟨G,3,none⟩=some (.int .i64 g.zPH)/\w'.cell? ⟨wr.heap.size,7,none⟩=some (.slice ad S4.dn cd)) (w7.setCell ⟨bn,off+i*8+3,none⟩ (.int .i64 g.zPH)):=by
     have t:=zF.put w7 bn (off+i*8+3) (.int .i64 g.zPH);exact⟨(t.cell (zD dA.1) (by omega)).trans dA.1,(t.cell (zD dA.2.1) (by omega)).trans dA.2.1,(t.cell (zD dA.2.2.1) (by omega)).trans dA.2.2.1,(t.cell (zD dA.2.2.2) (by omega)).trans dA.2.2.2⟩
    have iB:(fun w':World=>w'.cell? ⟨w.heap.size,0,none⟩=some (.pointer (some ⟨C,0,none⟩))/\w'.cell? ⟨C,5,none⟩=some (.slice (some ⟨bn,off,none⟩) W.pn cn)/\w'.cell? ⟨G,3,none⟩=some (.int .i64 g.zPH)/\w'.cell? ⟨wr.heap.size,7,none⟩=some (.slice ad S4.dn cd)) ((w7.setCell ⟨bn,off+i*8+3,none⟩ (.int .i64 g.zPH)).setCell ⟨bn,off+i*8+7,none⟩ (.slice na (g.dn+OL.length) nc)):=by
     have t:=zF.put (w7.setCell ⟨bn,off+i*8+3,none⟩ (.int .i64 g.zPH)) bn (off+i*8+7) (.slice na (g.dn+OL.length) nc);exact⟨(t.cell (zD fA.1) (by omega)).trans fA.1,(t.cell (zD fA.2.1) (by omega)).trans fA.2.1,(t.cell (zD fA.2.2.1) (by omega)).trans fA.2.2.1,(t.cell (zD fA.2.2.2) (by omega)).trans fA.2.2.2⟩
    have rG:=zB kB;have m8:((w7.setCell ⟨bn,off+i*8+3,none⟩ (.int .i64 g.zPH))).cell? ⟨bn,off+i*8+7,none⟩=some (.slice ak (W.zPD i).dn ck):=(World.cell?_setCell_other _ _ _ _ (by simp)).trans m7;have fF:((w7.setCell ⟨bn,off+i*8+3,none⟩ (.int .i64 g.zPH))).frozen? ⟨bn,off+i*8+7,none⟩=false:=(World.frozen?_setCell _ _ _ _).trans gD;have aE:=zB fA;have bE:=zB iB;clear dB dD jB nC sA kA bD eB mB kB fA iB kC sE
    (try go_wp2_with fail)
    refine hK.out _ _ (dA) ?_;clear hK K hHeld;intro hHeld
    try simp only[Act.put,s1,s2,s3]
    clear dA;refine tk 18 (h:=tk 19 (h:=?_));refine rd [20] (rc (fun K hK=>?_) .nil);go_simp
    (try go_wp2_with fail)
    refine hK.out _ _ (aE.out) ?_;clear hK K hHeld;intro hHeld
    try simp only[Act.put,s1,s2,s3]
    clear m3 dF;refine tk 21 (h:=tk 22 (h:=?_));refine rd [23] (rc (fun K hK=>?_) .nil);go_simp
    (try go_wp2_with fail)
    refine hK.out _ _ (bE.out) ?_;clear hK K hHeld;intro hHeld
    try simp only[Act.put,s1,s2,s3]
    refine wpAnyH_done (by kernel_rfl) ?_ _;clear hHeld m7 gD m8 fF;go_wp2_with fail;go_roundw
    case rel=>
     refine⟨i+1,by omega,by go_num,Or.inr ⟨i,oD,by omega,?_⟩⟩;have hE:=zNm HA.out HN.out mF.out aA (fun e=>by
      have h1:=(HI.out.zPL.zPD.2.1 k vA).2.2.1;have h2:=oD.2.1;rw[e,HK.out.2.1.symm]at h2;omega)
     rw[<-HG.out]at hE;unfold zCQ;rw[<-HG.out];exact hE
    case measure=>simp[intOf];omega
   ·have vC:∃ad cd,wr.cell? ⟨bn,off+i*8,none⟩=some (.int .i64 (W.zPD i).id)/\wr.cell? ⟨bn,off+i*8+1,none⟩=some (.string (W.zPD i).name)/\wr.cell? ⟨bn,off+i*8+2,none⟩=some (.string (W.zPD i).set)/\wr.cell? ⟨bn,off+i*8+3,none⟩=some (.int .i64 (W.zPD i).zPH)/\wr.cell? ⟨bn,off+i*8+4,none⟩=some (.int .i64 (W.zPD i).time)/\wr.cell? ⟨bn,off+i*8+5,none⟩=some (.int .i64 (W.zPD i).rs)/\wr.cell? ⟨bn,off+i*8+6,none⟩=some (.int .i64 (W.zPD i).rb)/\wr.cell? ⟨bn,off+i*8+7,none⟩=some (.slice ad (W.zPD i).dn cd):=by
     rcases eA with h | ⟨i0,h0,h1,h⟩
     ·have hs:=(HA.out.rows.nthE aA).zO9 (zA pB h.1);obtain⟨-,ad,cd,oA,-,-⟩:=id hs.zPK;exact⟨ad,cd,⟨hs.c0.1,hs.c1.1,hs.c2.1,hs.c3.1,hs.c4.1,hs.c5.1,hs.c6.1,by have:=hs.c7.1;rw[oA]at this;exact this⟩⟩
     ·obtain⟨_,_,_,_,_,_,_,_,_,_,_,h6,_⟩:=h;have hs:=h6 i aA;rw[show zCP W k i0 i=W.zPD i from if_neg (by omega)]at hs;obtain⟨-,ad,cd,oA,-,-⟩:=id hs.zPK;exact⟨ad,cd,⟨hs.c0.1,hs.c1.1,hs.c2.1,hs.c3.1,hs.c4.1,hs.c5.1,hs.c6.1,by have:=hs.c7.1;rw[oA]at this;exact this⟩⟩
    have rB:wr.cell? ⟨w.heap.size+1,0,none⟩=some (.int .i64 x):=by
     rcases eA with h | ⟨i0,h0,h1,h⟩
     ·exact(h.1.cell (zD aB.out)).trans aB.out
     ·obtain⟨_,_,_,_,_,_,_,h2,_⟩:=h;exact h2.2
    obtain⟨S4,rA⟩:∃S4,S4=W.zPD i:=⟨_,rfl⟩;rw[<-rA]at vC hq;obtain⟨ad,cd,q0,q1,q2,q3,q4,q5,q6,q7⟩:=vC;have nA:=zB rA;have HQ:=zB hq;have dC:=zB eA;have a1:(S4.zPH == x)=false:=beq_eq_false_iff_ne.2 hq;have gA:=zC wr (.cells #[.int .i64 S4.id,.string S4.name,.string S4.set,.int .i64 S4.zPH,.int .i64 S4.time,.int .i64 S4.rs,.int .i64 S4.rb,.slice ad S4.dn cd] 99);have HX:=zB (yx.new wr (.int .i64 S4.id) (.string S4.name) (.string S4.set) (.int .i64 S4.zPH) (.int .i64 S4.time) (.int .i64 S4.rs) (.int .i64 S4.rb) (.slice ad S4.dn cd) 99);have pA:(wr.alloc (.cells #[.int .i64 S4.id,.string S4.name,.string S4.set,.int .i64 S4.zPH,.int .i64 S4.time,.int .i64 S4.rs,.int .i64 S4.rb,.slice ad S4.dn cd] 99)).cell? ⟨w.heap.size+1,0,none⟩=some (.int .i64 x):=(gA.cell (zD rB)).trans rB;obtain⟨⟨⟨y0,-⟩,⟨y1,-⟩,⟨y2,-⟩,⟨y3,-⟩⟩,⟨y4,-⟩,⟨y5,-⟩,⟨y6,-⟩,⟨y7,-⟩⟩:=HX.out;clear rA hq eA rB;go_wp2_with fail;clear q0 y0 q1 y1 q2 y2 q3 y3 q4 y4 q5 y5 q6 y6 q7 y7 a1 pA;go_roundw
    case rel=>
     refine⟨i+1,by omega,by go_num,?_⟩
     ·have eA:=dC.out;rcases eA with h | ⟨i0,h0,h1,h⟩
      ·refine Or.inl ⟨zA h.1 gA,fun i0 h0=>?_⟩;have h1:=h.2 i0 h0;have h2:i≠i0:=fun e=>HQ.out (by rw[nA.out,e];exact h0.2.1)
       omega
      ·exact Or.inr ⟨i0,h0,by omega,h.zO9 gA⟩
    case measure=>simp[intOf];omega
  ·obtain rfl:i=W.pn:=(by omega);have lH:wr.cell? ⟨w.heap.size,0,none⟩=some (.pointer (some ⟨C,0,none⟩))/\wr.cell? ⟨C,4,none⟩=some (.slice (some ⟨sb,so,none⟩) W.sn sc):=by
    rcases eA with h | ⟨i0,h0,h1,h⟩
    ·exact⟨(h.1.cell (zD lA.out)).trans lA.out,((HC.out.zO9 (zA pB h.1)).2.2.2.2.1).1⟩
    ·obtain⟨_,_,_,_,_,_,h1,h2,_⟩:=h;exact⟨h2.1,h1.2.2.2.2.1.1⟩
   obtain⟨r1,r2⟩:=lH;have dC:=zB eA;clear eA;go_wp2_with fail;clear r1 r2
   go_loopw [58] (fun tH wr=>∃i:Nat,i<=W.sn/\tH = .int .i64 i/\((Below w3.heap.size w3 wr/\∃i0,zBc W x i0/\i<=i0)\/(∃i0,zBb W x i0/\SdE w wr C w.heap.size (w.heap.size+1) k bn off cn (.slice (some ⟨sb,so,none⟩) W.sn sc) W x (zq W.zPE (zCQ W k i0)) ((zCQ W k i0).length:Int) W.zPG (zCP W k i0))\/∃i0,zBc W x i0/\i0<i/\SdE w wr C w.heap.size (w.heap.size+1) k bn off cn (.slice (some ⟨sb,so,none⟩) W.sn sc) W x (zq W.zPE (zCR W k i0)) ((zCR W k i0).length:Int) (zD1 W k i0) W.zPD)) (fun i _=>W.sn - (intOf i).toNat)
   case atStart=>
    refine⟨0,Nat.zero_le _,rfl,?_⟩;rcases dC.out with h | ⟨i0,h0,h1,h⟩
    ·rcases HO.out with⟨i1,h1,-⟩ | ⟨i1,h1,-⟩
     ·have h2:=h.2 i1 h1;have h3:=h1.1;omega
     ·exact Or.inl ⟨h.1,i1,h1,Nat.zero_le _⟩
    ·exact Or.inr (Or.inl ⟨i0,h0,h⟩)
   case round=>
    clear dC;obtain⟨i,bI,rfl,eA⟩:=hrel;by_cases aA:i<W.sn
    ·have tA:(i:Int)<(W.sn:Int):=(by omega);by_cases hq:(W.zPG i).zPH=x
     ·have oD:zBc W x i:=by
       rcases HO.out with⟨i1,h1,-⟩ | ⟨i1,h1,-⟩
       ·exact absurd hq (h1.2.2.2 i aA)
       ·by_cases e:i=i1
        ·rw[e];exact h1
        ·exact absurd hq (h1.2.2.1 i aA e)
      have lB:Below w3.heap.size w3 wr:=by
       rcases eA with h | ⟨i0,h0,-⟩ | ⟨i0,h0,h1,-⟩
       ·exact h.1
       ·exact absurd hq (h0.2.2.2 i aA)
       ·exact absurd hq (h0.2.2.1 i aA (by omega))
      clear eA;have mC:=zA pB lB;have nG:=lB.size;have cA:=(aH.out i aA).zO9 mC;obtain⟨S4,rA⟩:∃S4,S4=W.zPG i:=⟨_,rfl⟩;rw[<-rA]at cA hq;obtain⟨-,ad,cd,oA,-,-⟩:=id cA.zPK;have bC:=cA.zPK.at (lo:=0) (hi:=wr.heap.size) (fun h0=>⟨Nat.zero_le _,cA.deadLt h0⟩);rw[oA]at bC;obtain⟨q0,-⟩:=cA.c0;obtain⟨q1,-⟩:=cA.c1;obtain⟨q2,-⟩:=cA.c2;obtain⟨q3,-⟩:=cA.c3;obtain⟨q4,-⟩:=cA.c4;obtain⟨q5,-⟩:=cA.c5;rw[oA]at q5;have dE:=zB bC;have nA:=zB rA;have HQ:=zB hq;have a1:(S4.zPH == x)=true:=beq_iff_eq.2 hq;have gA:=zC wr (.cells #[.string S4.name,.int .i64 S4.origin,.int .i64 S4.zPH,.int .i64 S4.rs,.int .i64 S4.rb,.slice ad S4.dn cd] 67);have HX:=zB (zg.new wr (.string S4.name) (.int .i64 S4.origin) (.int .i64 S4.zPH) (.int .i64 S4.rs) (.int .i64 S4.rb) (.slice ad S4.dn cd) 67);have bF:(wr.alloc (.cells #[.string S4.name,.int .i64 S4.origin,.int .i64 S4.zPH,.int .i64 S4.rs,.int .i64 S4.rb,.slice ad S4.dn cd] 67)).heap.size=wr.heap.size+1:=World.size_alloc _ _;have pA:(wr.alloc (.cells #[.string S4.name,.int .i64 S4.origin,.int .i64 S4.zPH,.int .i64 S4.rs,.int .i64 S4.rb,.slice ad S4.dn cd] 67)).cell? ⟨w.heap.size+1,0,none⟩=some (.int .i64 x):=((zA lB gA).cell (zD aB.out)).trans aB.out;obtain⟨⟨y0,-⟩,⟨y1,-⟩,⟨y2,-⟩,⟨y3,-⟩,⟨y4,-⟩,⟨y5,-⟩⟩:=HX.out;clear cA oA bC rA hq;go_upto_region 13 with fail;clear q0 y0 q1 y1 q2 y2 q3 y3 q4 y4 q5 y5 a1 pA;generalize (wr.alloc (.cells #[.string S4.name,.int .i64 S4.origin,.int .i64 S4.zPH,.int .i64 S4.rs,.int .i64 S4.rb,.slice ad S4.dn cd] 67))=w5 at gA HX bF ⊢;have fE:=zA mC gA;have tB:=zA lB gA;have jH:S4.dn<=200:=(by rw[nA.out];exact(oB.out i aA).1.1);have mA:Below w5.heap.size w5 w5.drew:=(Below.refl _ _).drew;have iA:=zA fE mA;have bA:=zA tB mA;have tD:=zB (show(fun w':World=>w'.cell? ⟨w.heap.size,0,none⟩=some (.pointer (some ⟨C,0,none⟩))/\w'.cell? ⟨C,4,none⟩=some (.slice (some ⟨sb,so,none⟩) W.sn sc)/\w'.cell? ⟨G,3,none⟩=some (.int .i64 g.zPH)/\w'.cell? ⟨wr.heap.size,5,none⟩=some (.slice ad S4.dn cd)) w5.drew from⟨(bA.cell (zD lA.out)).trans lA.out,(HC.out.zO9 iA).2.2.2.2.1.1,(gB.out.zO9 bA).1.2.2.2.1,(HX.out.zO9 mA).2.2.2.2.2.1⟩);refine wp_region_held_drew (S:=(fun w':World=>w'.cell? ⟨w.heap.size,0,none⟩=some (.pointer (some ⟨C,0,none⟩))/\w'.cell? ⟨C,4,none⟩=some (.slice (some ⟨sb,so,none⟩) W.sn sc)/\w'.cell? ⟨G,3,none⟩=some (.int .i64 g.zPH)/\w'.cell? ⟨wr.heap.size,5,none⟩=some (.slice ad S4.dn cd))) (by kernel_rfl) tD.out (fun hHeld=>?_);have eD:w5.drew.heap.size=w5.heap.size:=rfl;have jC:=zB (HX.out.zO9 mA);have iC:=zB (dE.out.zO9 (zA gA mA));generalize w5.drew=q0 at hHeld iA bA eD jC iC ⊢;refine tk 0 (h:=tk 1 (h:=tk 2 (h:=tk 3 (h:=tk 4 (h:=tk 5 (h:=tk 6 (h:=tk 7 (h:=tk 8 (h:=tk 9 (h:=tk 10 (h:=tk 11 (h:=tk 12 (h:=tk 13 (h:=tk 14 (h:=tk 15 (h:=tk 16 (h:=?_)))))))))))))))));refine rd [17] (rc (fun K hK=>?_) .nil);go_simp;go_at_call 125;refine(zJx C G w.heap.size (kb k) 0 wr.heap.size S4.dn P _ _ _ _ _ ga gc 0 W g S4.ds S4.db q0 ((iF.out.zO9 iA).wide (Nat.zero_le _) iA.size) nD HI.out.zPL.idsWf HI.out.zPL.dist Hx.out Ht.out (HC.out.zO9 iA) (HP.out.zO9 iA) (fun j hj=>by have:=HA.out.lt j (Or.inl hj);omega) ⟨(gB.out.zO9 bA).1.2.2.2.1,(gB.out.zO9 bA).2.2.2.2.1,(bA.cell (zD lA.out)).trans lA.out⟩ ⟨by omega,by omega⟩ (fun h0=>?_) (kF.out.zO9 iA) (jF.out.zO9 iA) pE iC.out (by rw[nA.out];exact(oB.out i aA).1) (by rw[nA.out];exact(oB.out i aA).2) (by omega) (by omega)).mono ?_
      ·have:=HA.out.lt _ (Or.inr (Or.inr (HA.out.inK vA (by rw[<-HG.out];exact h0)).1));exact⟨by omega,by omega,by omega,by omega,fun hp=>HA.out.pr _ hp (HA.out.inK vA (by rw[<-HG.out];exact h0)).1⟩
      obtain⟨OL,kB⟩:∃OL,OL=zAJ S4.ds S4.db (zK W g.zPH).time S4.dn:=⟨_,rfl⟩;rw[<-kB];rintro e w7 ⟨na,nc,nb,y0,y1,gF,rfl,dB,tE,vE,dD,jB,nC,sA,kA⟩;have oH:=sA.size;have bD:∀j,(0<g.dn/\j=kb k)->R j/\j≠bn:=fun j hj=>by rw[hj.2];exact HA.out.inK vA (by rw[<-HG.out];exact hj.1)
      have eB:∀j,w.heap.size<=j->¬(j=C\/(0<g.dn/\j=kb k)):=fun j hj e=>by
       rcases e with e | e
       ·omega
       ·have:=HA.out.lt j (Or.inr (Or.inr (bD j e).1));omega
      have dA:(fun w':World=>w'.cell? ⟨w.heap.size,0,none⟩=some (.pointer (some ⟨C,0,none⟩))/\w'.cell? ⟨C,4,none⟩=some (.slice (some ⟨sb,so,none⟩) W.sn sc)/\w'.cell? ⟨G,3,none⟩=some (.int .i64 g.zPH)/\w'.cell? ⟨wr.heap.size,5,none⟩=some (.slice ad S4.dn cd)) w7:=⟨(sA.cell (o:=0) (show w.heap.size<q0.heap.size by omega) (eB _ (Nat.le_refl _))).trans ((bA.cell (zD lA.out)).trans lA.out),jB.2.2.2.2.1.1,(sA.cell (o:=3) (show G<q0.heap.size by omega) (eB _ (by omega))).trans (gB.out.zO9 bA).1.2.2.2.1,(sA.cell (o:=5) (show wr.heap.size<q0.heap.size by omega) (eB _ (by omega))).trans jC.out.2.2.2.2.2.1⟩;have HN:=zB (show SdN w q0 w7 C w.heap.size (w.heap.size+1) k bn off cn nb gF y0 y1 (.slice (some ⟨sb,so,none⟩) W.sn sc) (.slice na (g.dn+OL.length) nc) W x ((sdY W (W.zPD k) (W.zPG i).dn (W.zPG i).ds (W.zPG i).db).length:Int) P kb kv (zq W.zPE (sdY W (W.zPD k) (W.zPG i).dn (W.zPG i).ds (W.zPG i).db)) (sdD W (W.zPD k) (W.zPG i).dn (W.zPG i).ds (W.zPG i).db)from by
       have e1:sdD W (W.zPD k) (W.zPG i).dn (W.zPG i).ds (W.zPG i).db=qu g.dn g.ds g.db ++ OL:=(by unfold sdD sdO;rw[<-nA.out,<-HG.out,kB]);have e2:sdY W (W.zPD k) (W.zPG i).dn (W.zPG i).ds (W.zPG i).db=zy S4.ds S4.db (zK W g.zPH).time S4.dn:=(by unfold sdY;rw[<-nA.out,<-HG.out]);rw[e1,e2];rw[Int.zero_add]at jB;refine⟨iA,jB,dA.1,(sA.cell (o:=0) (show w.heap.size+1<q0.heap.size by omega) (eB _ (by omega))).trans ((bA.cell (zD aB.out)).trans aB.out),⟨Nat.le_refl _,by omega⟩,nC,by rw[<-HG.out];exact sA,tE,vE,dB,fun h0=>?_,by rw[<-HG.out,lF.out];exact kA⟩;rw[<-HG.out];exact dD (by rw[List.length_append,qq]at h0;exact h0))
      have mB:yR w7 sb (so+i*6) (ub i) (uv i) (W.zPG i):=by
       obtain⟨cC,c',ev,hx⟩:=(HA.out.set HN.out nF.out oF.out).nth aA;simp only[Value.slice.injEq,Option.some.injEq,Addr.mk.injEq,and_true,true_and]at ev;obtain⟨rfl,rfl⟩:=ev;exact hx
      obtain⟨m3,dF⟩:=mB.c2;obtain⟨m7,gD⟩:=mB.c5;obtain⟨rH,sE⟩:∃u,uv i=u:=⟨_,rfl⟩;obtain⟨-,ak,ck,kC,-,-⟩:=mB.zPK;rw[kC]at m7;have tA:(i:Int)<(W.sn:Int):=(by omega);have fA:(fun w':World=>w'.cell? ⟨w.heap.size,0,none⟩=some (.pointer (some ⟨C,0,none⟩))/\w'.cell? ⟨C,4,none⟩=some (.slice (some ⟨sb,so,none⟩) W.sn sc)/\w'.cell? ⟨G,3,none⟩=some (.int .i64 g.zPH)/\w'.cell? ⟨wr.heap.size,5,none⟩=some (.slice ad S4.dn cd)) (w7.setCell ⟨sb,so+i*6+2,none⟩ (.int .i64 g.zPH)):=by
       have t:=zF.put w7 sb (so+i*6+2) (.int .i64 g.zPH);exact⟨(t.cell (zD dA.1) (by omega)).trans dA.1,(t.cell (zD dA.2.1) (by omega)).trans dA.2.1,(t.cell (zD dA.2.2.1) (by omega)).trans dA.2.2.1,(t.cell (zD dA.2.2.2) (by omega)).trans dA.2.2.2⟩
      have iB:(fun w':World=>w'.cell? ⟨w.heap.size,0,none⟩=some (.pointer (some ⟨C,0,none⟩))/\w'.cell? ⟨C,4,none⟩=some (.slice (some ⟨sb,so,none⟩) W.sn sc)/\w'.cell? ⟨G,3,none⟩=some (.int .i64 g.zPH)/\w'.cell? ⟨wr.heap.size,5,none⟩=some (.slice ad S4.dn cd)) ((w7.setCell ⟨sb,so+i*6+2,none⟩ (.int .i64 g.zPH)).setCell ⟨sb,so+i*6+5,none⟩ (.slice na (g.dn+OL.length) nc)):=by
       have t:=zF.put (w7.setCell ⟨sb,so+i*6+2,none⟩ (.int .i64 g.zPH)) sb (so+i*6+5) (.slice na (g.dn+OL.length) nc);exact⟨(t.cell (zD fA.1) (by omega)).trans fA.1,(t.cell (zD fA.2.1) (by omega)).trans fA.2.1,(t.cell (zD fA.2.2.1) (by omega)).trans fA.2.2.1,(t.cell (zD fA.2.2.2) (by omega)).trans fA.2.2.2⟩
      have rG:=zB kB;have m8:((w7.setCell ⟨sb,so+i*6+2,none⟩ (.int .i64 g.zPH))).cell? ⟨sb,so+i*6+5,none⟩=some (.slice ak (W.zPG i).dn ck):=(World.cell?_setCell_other _ _ _ _ (by simp)).trans m7;have fF:((w7.setCell ⟨sb,so+i*6+2,none⟩ (.int .i64 g.zPH))).frozen? ⟨sb,so+i*6+5,none⟩=false:=(World.frozen?_setCell _ _ _ _).trans gD;have aE:=zB fA;have bE:=zB iB;clear dB dD jB nC sA kA bD eB mB kB fA iB kC sE
      (try go_wp2_with fail)
      refine hK.out _ _ (dA) ?_;clear hK K hHeld;intro hHeld
      try simp only[Act.put,s1,s2,s3]
      clear dA;refine tk 18 (h:=tk 19 (h:=?_));refine rd [20] (rc (fun K hK=>?_) .nil);go_simp
      (try go_wp2_with fail)
      refine hK.out _ _ (aE.out) ?_;clear hK K hHeld;intro hHeld
      try simp only[Act.put,s1,s2,s3]
      clear m3 dF;refine tk 21 (h:=tk 22 (h:=?_));refine rd [23] (rc (fun K hK=>?_) .nil);go_simp
      (try go_wp2_with fail)
      refine hK.out _ _ (bE.out) ?_;clear hK K hHeld;intro hHeld
      try simp only[Act.put,s1,s2,s3]
      refine wpAnyH_done (by kernel_rfl) ?_ _;clear hHeld m7 gD m8 fF;go_wp2_with fail;go_roundw
      case rel=>
       refine⟨i+1,by omega,by go_num,Or.inr (Or.inr ⟨i,oD,by omega,?_⟩)⟩;have hE:=zOD HA.out HN.out nF.out vG.out oF.out aA;rw[<-HG.out]at hE;unfold zCR;rw[<-HG.out];exact hE
      case measure=>simp[intOf];omega
     ·have vC:∃ad cd,wr.cell? ⟨sb,so+i*6,none⟩=some (.string (W.zPG i).name)/\wr.cell? ⟨sb,so+i*6+1,none⟩=some (.int .i64 (W.zPG i).origin)/\wr.cell? ⟨sb,so+i*6+2,none⟩=some (.int .i64 (W.zPG i).zPH)/\wr.cell? ⟨sb,so+i*6+3,none⟩=some (.int .i64 (W.zPG i).rs)/\wr.cell? ⟨sb,so+i*6+4,none⟩=some (.int .i64 (W.zPG i).rb)/\wr.cell? ⟨sb,so+i*6+5,none⟩=some (.slice ad (W.zPG i).dn cd):=by
       have key:∀f,yo wr f (.slice (some ⟨sb,so,none⟩) W.sn sc) W.sn W.zPG->∃ad cd,wr.cell? ⟨sb,so+i*6,none⟩=some (.string (W.zPG i).name)/\wr.cell? ⟨sb,so+i*6+1,none⟩=some (.int .i64 (W.zPG i).origin)/\wr.cell? ⟨sb,so+i*6+2,none⟩=some (.int .i64 (W.zPG i).zPH)/\wr.cell? ⟨sb,so+i*6+3,none⟩=some (.int .i64 (W.zPG i).rs)/\wr.cell? ⟨sb,so+i*6+4,none⟩=some (.int .i64 (W.zPG i).rb)/\wr.cell? ⟨sb,so+i*6+5,none⟩=some (.slice ad (W.zPG i).dn cd):=fun f h=>by
        obtain⟨b',cF,fD,h1,-,-⟩:=h;obtain⟨cC,c',ev,hs⟩:=h1.nth aA;simp only[Value.slice.injEq,Option.some.injEq,Addr.mk.injEq,and_true,true_and]at ev;obtain⟨⟨rfl,rfl⟩,rfl⟩:=ev;obtain⟨-,ad,cd,oA,-,-⟩:=id hs.zPK;exact⟨ad,cd,⟨hs.c0.1,hs.c1.1,hs.c2.1,hs.c3.1,hs.c4.1,by have:=hs.c5.1;rw[oA]at this;exact this⟩⟩
       rcases eA with h | ⟨i0,h0,h⟩ | ⟨i0,h0,h1,h⟩
       ·exact key Q (mF.out.zO9 (zA pB h.1))
       ·obtain⟨_,_,_,Q',_,_,_,_,_,_,h5,_⟩:=h;exact key Q' h5
       ·obtain⟨_,_,_,Q',_,_,_,_,_,_,⟨b',cF,fD,fH,_,_⟩,_⟩:=h;obtain⟨cC,c',ev,hs⟩:=fH.nth aA;simp only[Value.slice.injEq,Option.some.injEq,Addr.mk.injEq,and_true,true_and]at ev;obtain⟨⟨rfl,rfl⟩,rfl⟩:=ev;rw[show zD1 W k i0 i=W.zPG i from if_neg (by omega)]at hs;obtain⟨-,ad,cd,oA,-,-⟩:=id hs.zPK;exact⟨ad,cd,⟨hs.c0.1,hs.c1.1,hs.c2.1,hs.c3.1,hs.c4.1,by have:=hs.c5.1;rw[oA]at this;exact this⟩⟩
      have rB:wr.cell? ⟨w.heap.size+1,0,none⟩=some (.int .i64 x):=by
       rcases eA with h | ⟨i0,h0,h⟩ | ⟨i0,h0,h1,h⟩
       ·exact(h.1.cell (zD aB.out)).trans aB.out
       ·obtain⟨_,_,_,_,_,_,_,h2,_⟩:=h;exact h2.2
       ·obtain⟨_,_,_,_,_,_,_,h2,_⟩:=h;exact h2.2
      obtain⟨S4,rA⟩:∃S4,S4=W.zPG i:=⟨_,rfl⟩;rw[<-rA]at vC hq;obtain⟨ad,cd,q0,q1,q2,q3,q4,q5⟩:=vC;have nA:=zB rA;have HQ:=zB hq;have dC:=zB eA;have a1:(S4.zPH == x)=false:=beq_eq_false_iff_ne.2 hq;have gA:=zC wr (.cells #[.string S4.name,.int .i64 S4.origin,.int .i64 S4.zPH,.int .i64 S4.rs,.int .i64 S4.rb,.slice ad S4.dn cd] 67);have HX:=zB (zg.new wr (.string S4.name) (.int .i64 S4.origin) (.int .i64 S4.zPH) (.int .i64 S4.rs) (.int .i64 S4.rb) (.slice ad S4.dn cd) 67);have pA:(wr.alloc (.cells #[.string S4.name,.int .i64 S4.origin,.int .i64 S4.zPH,.int .i64 S4.rs,.int .i64 S4.rb,.slice ad S4.dn cd] 67)).cell? ⟨w.heap.size+1,0,none⟩=some (.int .i64 x):=(gA.cell (zD rB)).trans rB;obtain⟨⟨y0,-⟩,⟨y1,-⟩,⟨y2,-⟩,⟨y3,-⟩,⟨y4,-⟩,⟨y5,-⟩⟩:=HX.out;clear rA hq eA rB;go_wp2_with fail;clear q0 y0 q1 y1 q2 y2 q3 y3 q4 y4 q5 y5 a1 pA;go_roundw
      case rel=>
       refine⟨i+1,by omega,by go_num,?_⟩
       ·have eA:=dC.out;rcases eA with⟨h,i0,h0,h1⟩ | ⟨i0,h0,h⟩ | ⟨i0,h0,h1,h⟩
        ·refine Or.inl ⟨zA h gA,i0,h0,?_⟩;have h2:i≠i0:=fun e=>HQ.out (by rw[nA.out,e];exact h0.2.1)
         omega
        ·exact Or.inr (Or.inl ⟨i0,h0,h.zO9 gA⟩)
        ·exact Or.inr (Or.inr ⟨i0,h0,by omega,h.zO9 gA⟩)
      case measure=>simp[intOf];omega
    ·obtain rfl:i=W.sn:=(by omega);have hfin:∃fT fS pl m,o=⟨{W with zPE:=pl,zPG:=fT,pn:=W.pn - 1,zPD:=del fS k},0,m,0⟩/\(∀j,(fS j).id=(W.zPD j).id)/\SdE w wr C w.heap.size (w.heap.size+1) k bn off cn (.slice (some ⟨sb,so,none⟩) W.sn sc) W x pl m fT fS:=by
      rcases eA with⟨h,i0,h0,h1⟩ | ⟨i0,h0,h⟩ | ⟨i0,h0,h1,h⟩
      ·exact absurd h0.1 (by omega)
      ·refine⟨_,_,_,_,?_,fun j=>?_,h⟩
       ·rcases HO.out with⟨i1,h2,e⟩ | ⟨i1,h2,e⟩
        ·have ei:i1=i0:=Classical.byContradiction fun aC=>h0.2.2.1 i1 h2.1 aC h2.2.1
         rw[e,ei];rfl
        ·exact absurd h0.2.1 (h2.2.2.2 i0 h0.1)
       ·unfold zCP;split
        ·rename_i e;rw[e];rfl
        ·rfl
      ·refine⟨_,_,_,_,?_,fun j=>rfl,h⟩;rcases HO.out with⟨i1,h2,e⟩ | ⟨i1,h2,e⟩
       ·exact absurd h0.2.1 (h2.2.2.2 i0 h0.1)
       ·have ei:i1=i0:=Classical.byContradiction fun aC=>h0.2.2.1 i1 h2.1 aC h2.2.1
        rw[e,ei];rfl
     clear eA;obtain⟨fT,fS,pl,m,ho,rE,y0,y1,P',Q',cF,fD,hB,⟨cP,cI⟩,lE,oC,bG,eC,pC,gG,iG,tA⟩:=hfin;have nG:=lE.size;have oE:=(tA bn (Or.inr (Or.inr (Or.inl rfl)))).2;have dG:qf wr 0 wr.heap.size (.slice (some ⟨bn,off,none⟩) W.pn cn) W.pn fS:=⟨fG,_,_,rfl,vB,fun _=>⟨bn,off,rfl,Nat.zero_le _,oE,fun i hi=>⟨fD i,(eC i hi).cells (fun h0=>⟨Nat.zero_le _,(eC i hi).deadLt h0⟩)⟩⟩⟩;have gC:=zB (show ∀w',Below wr.heap.size wr w'->Calls Tryz.prog 126 #[.slice (some ⟨bn,off,none⟩) W.pn cn,.func (.func 127) #[] #[.pointer (some ⟨w.heap.size+1,0,none⟩)]] w' fun e oG=>e = .returned (.slice (some ⟨bn,off,none⟩) (W.pn - 1) cn)/\zF (fun j=>j=bn) w' oG/\∀i,i<W.pn - 1->∀r,r<8->zQ oG bn (off+i*8+r) (cellSnap (del fS k) (del fD k) i r)from fun w' hb=>zJj 0 wr.heap.size bn off W.pn cn k (w.heap.size+1) fD fS x w' (fun i hi r hr=>(zIR (eC i hi) r hr).zO9 hb) (fun i hi=>by obtain⟨-,a,c,h,-⟩:=(eC i hi).zPK;exact⟨a,c,h⟩) (dG.zO9 hb) vA nD vB (by rw[rE];exact HK.out.2.1) (fun i hi aC=>by
      rw[rE,<-HK.out.2.1];rcases Nat.lt_or_gt_of_ne aC with h1 | h1
      ·exact HI.out.zPL.dist k vA i h1
      ·exact fun e=>HI.out.zPL.dist i hi k h1 e.symm) ((hb.cell (zD cI)).trans cI) (by omega))
     have HB:=zB hB;have eH:=zB ho;have dH:=zB lE;have sG:=zB oC;have bH:=zB bG;have mD:=zB eC;have cE:=zB pC;have eE:=zB gG;have rF:=zB iG;have HL:=zB tA;have mA:Below wr.heap.size wr wr.drew:=(Below.refl _ _).drew;have sF:C≠bn:=(by omega);have tG:=zB (show(fun w':World=>w'.cell? ⟨w.heap.size,0,none⟩=some (.pointer (some ⟨C,0,none⟩))) wr from cP);clear hB ho lE oC bG eC pC gG iG tA cP cI dG rE;have kH:∀(fn:Fn) (first cap:Array Value) (w:World),(Instr.makeFunc fn first cap).run Tryz.prog w = .ok (.func fn first cap) w:=fun _ _ _ _=>rfl
     go_upto_region 15 with fail;refine wp_region_held_drew (S:=(fun w':World=>w'.cell? ⟨w.heap.size,0,none⟩=some (.pointer (some ⟨C,0,none⟩)))) (by kernel_rfl) tG.out (fun hHeld=>?_);have eD:wr.drew.heap.size=wr.heap.size:=rfl;have sD:=zB (HB.out.zO9 mA);have kD:=zB hHeld;generalize wr.drew=q0 at hHeld mA eD sD kD ⊢;obtain⟨m5,eF⟩:=sD.out.2.2.2.2.2.1;refine tk 0 (h:=tk 1 (h:=tk 2 (h:=tk 3 (h:=tk 4 (h:=tk 6 (h:=?_))))));refine rd [5] (rc (fun K hK=>?_) .nil);go_simp
     (try go_wp2_with fail)
     refine hK.out _ _ (kD.out) ?_;clear hK K hHeld;intro hHeld
     try simp only[Act.put,s1,s2,s3]
     clear m5 eF;refine rd [7] (rc (fun K hK=>?_) .nil);go_simp;go_at_call 126;refine(gC.out q0 mA).mono ?_;clear gC;rintro e w9 ⟨rfl,sC,eG⟩;have eI:=sC.size;have iB:(fun w':World=>w'.cell? ⟨w.heap.size,0,none⟩=some (.pointer (some ⟨C,0,none⟩))) w9:=(sC.cell (zD kD.out) (by omega)).trans kD.out;have cH:=zB sC;have pG:=zB eG;have fB:=zB (sD.out.zPF sC sF);obtain⟨m5,eF⟩:=fB.out.2.2.2.2.2.1;clear sC eG
     (try go_wp2_with fail)
     refine hK.out _ _ (iB) ?_;clear hK K hHeld;intro hHeld
     try simp only[Act.put,s1,s2,s3]
     have kE:=zF.put w9 C 5 (.slice (some ⟨bn,off,none⟩) (W.pn - 1) cn);have pF:=zB kE;have vD:=zB (show(fun w':World=>w'.cell? ⟨w.heap.size,0,none⟩=some (.pointer (some ⟨C,0,none⟩))) (w9.setCell ⟨C,5,none⟩ (.slice (some ⟨bn,off,none⟩) (W.pn - 1) cn))from(kE.cell (zD iB) (by omega)).trans iB);clear iB kE;refine tk 8 (h:=tk 9 (h:=tk 10 (h:=?_)));refine rd [11] (rc (fun K hK=>?_) .nil);go_simp
     (try go_wp2_with fail)
     refine hK.out _ _ (vD.out) ?_;clear hK K hHeld;intro hHeld
     try simp only[Act.put,s1,s2,s3]
     refine wpAnyH_done (by kernel_rfl) ?_ _;clear hHeld m5 eF;go_wp2_with fail;go_end0;have fI:=pF.out.size;have pD:zF (fun j=>j=C\/j=bn) wr (w9.setCell ⟨C,5,none⟩ (.slice (some ⟨bn,off,none⟩) (W.pn - 1) cn)):=((zF.zPB mA).trans (cH.out.mono (fun j e=>Or.inr e))).trans (pF.out.mono (fun j e=>Or.inl e));have tC:zF (fun j=>C<=j) w (w9.setCell ⟨C,5,none⟩ (.slice (some ⟨bn,off,none⟩) (W.pn - 1) cn)):=dH.out.trans (pD.mono (fun j e=>by omega));have aF:∀j,C<j->j≠bn->¬(j=C\/j=bn):=fun j h1 h2 e=>by omega
     obtain⟨d1,d2,d3⟩:=zNo (w9:=w9.setCell ⟨C,5,none⟩ (.slice (some ⟨bn,off,none⟩) (W.pn - 1) cn)) fG vB vA (fun i hi r hr=>(pG.out i hi r hr).zPA _ (Or.inl sF)) (fun i hi aC=>⟨(mD.out i hi).zPK.zPF pD (fun h0=>aF _ (HL.out _ (Or.inr (Or.inr (Or.inr ⟨i,hi,aC,h0,rfl⟩)))).1 ((mD.out i hi).zPJ h0)),(mD.out i hi).zPN,(mD.out i hi).zPJ⟩) cE.out;rw[eH.out];refine⟨⟨_,rfl⟩,tC.zO9 (B:=C) (by omega) (fun j h=>h),by omega,Or.inl ⟨rfl,_,_,_,_,⟨fB.out.1.zPA _ (Or.inr (by decide)),fB.out.2.1.zPA _ (Or.inr (by decide)),fB.out.2.2.1.zPA _ (Or.inr (by decide)),fB.out.2.2.2.1.zPA _ (Or.inr (by decide)),fB.out.2.2.2.2.1.zPA _ (Or.inr (by decide)),fB.out.2.2.2.2.2.1.set _,fB.out.2.2.2.2.2.2.1.zPA _ (Or.inr (by decide)),fB.out.2.2.2.2.2.2.2.1.zPA _ (Or.inr (by decide)),fB.out.2.2.2.2.2.2.2.2.zPA _ (Or.inr (by decide))⟩,P',Q',SdR bn cF k W.pn fS,⟨sG.out.zPF pD (fun j hj=>aF j (HL.out j (Or.inl hj)).1 (fun e=>(eE.out j hj).2 (Or.inl e))),bH.out.zPF pD (fun j hj=>aF j (HL.out j (Or.inr (Or.inl hj))).1 (fun e=>rF.out j hj (Or.inl e))),⟨bn,_,_,d1,d2,d3⟩,fun j hj=>(eE.out j hj).1,fun j hj=>(eE.out j hj).2,rF.out⟩,fun j hj=>?_⟩⟩;have:=HL.out j hj;omega
theorem zFB(p:Nat->Addr)(C k B0:Nat)(z0 z1 z2 z3:Value)(W:zE)(x:Int)(o:zAk)(w:World)(hI:yk W)(ht:zA8 (zK W (W.zPD k).zPH).time)(hx:(Lit.int .i64 (W.zPD k).zPH).wf=true)(cA:(Lit.int .i64 x).wf=true)(hk:qM W x k)(dA:(W.zPD k).dn<=1048576)(hO:(∃i,zBb W x i/\o=⟨zG0 W k i,0,((zCQ W k i).length:Int),0⟩)\/∃i,zBc W x i/\o=⟨zG1 W k i,0,((zCR W k i).length:Int),0⟩)
  (aA:∀i,i<W.pn->qN (W.zPD i).dn (W.zPD i).ds (W.zPD i).db/\yN W.zPE (zy (W.zPD i).ds (W.zPD i).db (zK W (W.zPD k).zPH).time (W.zPD i).dn)) (bA:∀i,i<W.sn->qN (W.zPG i).dn (W.zPG i).ds (W.zPG i).db/\yN W.zPE (zy (W.zPG i).ds (W.zPG i).db (zK W (W.zPD k).zPH).time (W.zPG i).dn)) (eA:C<w.heap.size) (k0:w.cell? ⟨B0,0,none⟩=some (.int .i64 x))
  (ho:qV w (C+1) w.heap.size z0 z1 z2 z3 W) (hC:yM w C z0 z1 (.int .i64 W.time) (.int .i64 W.next) z2 z3 (.int .i64 0) (.int .i64 0) .nilIface) :
  Calls Tryz.prog 57 #[.pointer (some ⟨C,0,none⟩),.pointer (some ⟨B0,0,none⟩)] w (zLd p o C w):=by
 have H:=zB (zIk p C k z0 z1 z2 z3 W x o w hI ht hx cA hk dA hO aA bA eA ho hC);clear ho hC hI ht hx cA hk hO aA bA;go_enter Tryz.func57,Tryz.ntmps57;go_wp2_with fail;refine H.out.mono ?_;rintro e w' ⟨⟨v,rfl⟩,hr⟩;have Hr:=zB hr;clear hr;go_wp2_with fail;go_end0;exact⟨⟨_,rfl⟩,Hr.out⟩
theorem zFN.all{W:zE}{a b:Prop}{m:Nat}{Q:Nat->Prop}{ei:Nat->Nat}(h:zFN W a b m Q ei none):∀j,j<m->Q j:=by
 rcases h with⟨_,e⟩ | ⟨_,_,e⟩ | ⟨_,_,_,k,hk,_,_,e⟩ | ⟨_,_,_,h4,_⟩
 ·cases e
 ·cases e
 ·cases e
 ·exact h4
theorem zFN.uniq{W:zE}{a b:Prop}{m:Nat}{Q:Nat->Prop}{ei:Nat->Nat}{r r':Option Nat}(h:zFN W a b m Q ei r)(h':zFN W a b m Q ei r'):r=r':=by
 rcases h with⟨h1,e⟩ | ⟨h1,h2,e⟩ | ⟨h1,h2,h3,i,hi,hn,hl,e⟩ | ⟨h1,h2,h3,h4,e⟩
 ·rcases h' with⟨g1,e'⟩ | ⟨g1,g2,e'⟩ | ⟨g1,g2,g3,j,hj,gn,gl,e'⟩ | ⟨g1,g2,g3,g4,e'⟩
  ·rw[e,e']
  ·exact absurd h1 g1
  ·exact absurd h1 g1
  ·exact absurd h1 g1
 ·rcases h' with⟨g1,e'⟩ | ⟨g1,g2,e'⟩ | ⟨g1,g2,g3,j,hj,gn,gl,e'⟩ | ⟨g1,g2,g3,g4,e'⟩
  ·exact absurd g1 h1
  ·rw[e,e']
  ·rcases h2 with h | h
   ·exact absurd g2 h
   ·exact absurd h g3
  ·rcases h2 with h | h
   ·exact absurd g2 h
   ·exact absurd h g3
 ·rcases h' with⟨g1,e'⟩ | ⟨g1,g2,e'⟩ | ⟨g1,g2,g3,j,hj,gn,gl,e'⟩ | ⟨g1,g2,g3,g4,e'⟩
  ·exact absurd g1 h1
  ·rcases g2 with h | h
   ·exact absurd h2 h
   ·exact absurd h h3
  ·rcases Nat.lt_trichotomy i j with h | h | h
   ·exact absurd (gl i h) hn
   ·rw[e,e',h]
   ·exact absurd (hl j h) gn
  ·exact absurd (g4 i hi) hn
 ·rcases h' with⟨g1,e'⟩ | ⟨g1,g2,e'⟩ | ⟨g1,g2,g3,j,hj,gn,gl,e'⟩ | ⟨g1,g2,g3,g4,e'⟩
  ·exact absurd g1 h1
  ·rcases g2 with h | h
   ·exact absurd h2 h
   ·exact absurd h h3
  ·exact absurd (h4 j hj) gn
  ·rw[e,e']
theorem zFN.impl{W:zE}{a b:Prop}{m:Nat}{Q:Nat->Prop}{ei:Nat->Nat}(h:zFN W a b m Q ei none):yk W:=by
 rcases h with⟨_,e⟩ | ⟨_,_,e⟩ | ⟨_,_,_,k,hk,_,_,e⟩ | ⟨_,h2,_,h4,_⟩
 ·cases e
 ·cases e
 ·cases e
 ·exact h2
theorem zKm{W:zE}(h:zAi W)(x:Int):zA8 (zK W x).time:=by
 by_cases hx:∃k,qM W x k
 ·obtain⟨k,hk⟩:=hx;rw[qx hk];have h1:=(h.2.2.2.2.2 k hk.1).1;have h2:=h.1;unfold zBM at h2;exact⟨by have:=h1.2.2.1;omega,by have:=h1.2.2.2.1;omega⟩
 ·have e:zK W x=yG:=(by unfold zK;rw[dif_neg hx]);rw[e];exact⟨by decide,by decide⟩
def yF(W:zE)(sid:Int)(w:World)(e:Ending)(w':World):Prop:=∃r o,zFN W (∃i,i<0/\8000<((fun (_:Nat)=>(⟨#[]⟩:ByteArray)) i).size) (∃i,i<0/\¬yE ((fun _=>⟨#[]⟩) i)) 2 (fun i=>match i with | 0=>qD W sid | _=>yw W sid=1) (fun i=>match i with | 0=>2 | _=>5) r/\(r=none->∃k,qM W sid k/\((∃i,zBb W sid i/\o=⟨zG0 W k i,0,((zCQ W k i).length:Int),0⟩)\/∃i,zBc W sid i/\o=⟨zG1 W k i,0,((zCR W k i).length:Int),0⟩))/\zBN (zLI r o) w e w'
theorem yF.ill{W:zE}{aA:Int}{w w':World}{e:Ending}{i:Nat}(hr:zFN W (∃i,i<0/\8000<((fun (_:Nat)=>(⟨#[]⟩:ByteArray)) i).size) (∃i,i<0/\¬yE ((fun _=>⟨#[]⟩) i)) 2 (fun i=>match i with | 0=>qD W aA | _=>yw W aA=1) (fun i=>match i with | 0=>2 | _=>5) (some i))(h:zBN (zCD (zDT i)) w e w'):yF W aA w e w':=⟨some i,zCD 0,hr,fun e=>(by cases e),h⟩
theorem zDf{W:zE}(hS:zGN W)(t:Int):(∀i,i<W.pn->qN (W.zPD i).dn (W.zPD i).ds (W.zPD i).db/\yN W.zPE (zy (W.zPD i).ds (W.zPD i).db t (W.zPD i).dn))/\∀i,i<W.sn->qN (W.zPG i).dn (W.zPG i).ds (W.zPG i).db/\yN W.zPE (zy (W.zPG i).ds (W.zPG i).db t (W.zPG i).dn):=by
 refine⟨fun i hi=>?_,fun i hi=>?_⟩
 ·have:=zH1 hS (i:=i) (by unfold zm;omega) t;rw[qA hi]at this;exact this
 ·have:=zH1 hS (i:=W.pn+i) (by unfold zm;omega) t;rw[qz]at this;exact this
theorem zOk{W:zE}{aA:Int}(k:Nat)(h:yw W aA=1):∃o:zAk,((∃i,zBb W aA i/\o=⟨zG0 W k i,0,((zCQ W k i).length:Int),0⟩)\/∃i,zBc W aA i/\o=⟨zG1 W k i,0,((zCR W k i).length:Int),0⟩):=by
 rcases zLy h with⟨i,hi⟩ | ⟨i,hi⟩
 ·exact⟨_,Or.inl ⟨i,hi,rfl⟩⟩
 ·exact⟨_,Or.inr ⟨i,hi,rfl⟩⟩
theorem zDz(p:Nat->Addr)(v0 v1 v2 v3:Value)(lo hi:Nat)(W:zE)(aA:Int)(w:World)(hE:zEd w p)(h:zd w lo hi v0 v1 v2 v3 W)(cA:zAr W)(b1:yL W.zPE<=1048576)(b2:W.sn<=1048576)(b3:W.pn<=1048576)(b4:zDE W)(bA:(Lit.int .i64 aA).wf=true) :
  Calls Tryz.prog 19 #[zt v0 v1 v2 v3 W,.int .i64 aA] w (yF W aA w):=by
 by_cases hs:qD W aA/\yw W aA=1
 ·obtain⟨k,hk⟩:=hs.1.no;obtain⟨o,hO⟩:=zOk k hs.2;refine(zBw p v0 v1 v2 v3 lo hi W aA o w hE h cA b1 b2 b3 b4 bA ?_).mono ?_
  ·intro B0 C w' z0 z1 z2 z3 k0 _ hI _ _ hq dA hb ho hC;have hS:=(zBK W).1 hI;have hx:=cA k (by have:=hk.1;unfold zm;omega);rw[qA hk.1]at hx;have hh:=zDf hS (zK W (W.zPD k).zPH).time;exact zFB p C k B0 z0 z1 z2 z3 W aA o w' hI (zKm hS.zPL _) hx bA hk (by have:=(hh.1 k hk.1).1.1;omega) hO hh.1 hh.2 dA k0 ho hC
  ·rintro e w' ⟨r,h1,h2⟩;exact⟨r,_,h1,fun _=>⟨k,hk,hO⟩,h2⟩
 ·refine(zBw p v0 v1 v2 v3 lo hi W aA (zCD 0) w hE h cA b1 b2 b3 b4 bA ?_).mono ?_
  ·intro B0 C w' z0 z1 z2 z3 k0 _ hI _ _ hq dA hb ho hC;exact absurd ⟨hq 0 (by omega),hq 1 (by omega)⟩ hs
  ·rintro e w' ⟨r,h1,h2⟩;exact⟨r,_,h1,fun e=>absurd ⟨(e▸h1).all 0 (by omega),(e▸h1).all 1 (by omega)⟩ hs,h2⟩
structure yZ (bs o n:Nat) (w w':World):Prop where
 zPF:zF (fun b=>b=bs) w w'
 kept:∀x v,(x<o\/o+n<=x)->zQ w bs x v->zQ w' bs x v
theorem yZ.refl(bs o n:Nat)(w:World):yZ bs o n w w:=⟨zF.refl _ _,fun _ _ _ h=>h⟩
theorem yZ.set{bs o n:Nat}{w w':World}(h:yZ bs o n w w')(x:Nat)(u:Value)(h1:o<=x)(h2:x<o+n):yZ bs o n w (w'.setCell ⟨bs,x,none⟩ u):=
 ⟨h.zPF.setCell (p:=⟨bs,x,none⟩) rfl u,fun y v hy hc=>(h.kept y v hy hc).zPA u (Or.inr (by omega))⟩
theorem yZ.zO9{bs o n:Nat}{w w' w2:World}(h:yZ bs o n w w')(t:Below w'.heap.size w' w2):yZ bs o n w w2:=
 ⟨h.zPF.trans (zF.zPB t),fun y v hy hc=>(h.kept y v hy hc).zO9 t⟩
theorem zMw{w w1 w2:World}{bs off n k:Nat}{kb:Nat->Nat}{kv:Nat->Value}{f:Nat->zv}{s:zv}(h:∀j,j<n->yR w bs (off+j*6) (kb j) (kv j) (f j))(bA:zAG kb n f)(hk:k<n)
  (r:yZ bs (off+k*6) 6 w w1) (t:zF (fun b=>0<(f k).dn/\b=kb k) w1 w2) (c0:zQ w1 bs (off+k*6) (.string s.name)) (c1:zQ w1 bs ((off+k*6)+1) (.int .i64 s.origin)) (c2:zQ w1 bs ((off+k*6)+2) (.int .i64 s.zPH)) (c3:zQ w1 bs ((off+k*6)+3) (.int .i64 s.rs)) (c4:zQ w1 bs ((off+k*6)+4) (.int .i64 s.rb)) (c5:zQ w1 bs (off+k*6+5) (kv k)) (cA:s.dn=(f k).dn) (hp:zj w2 (kb k) (kv k) s.dn s.ds s.db) (hs:s.name.size<=maxLen) :
  ∀j,j<n->yR w2 bs (off+j*6) (kb j) (kv j) (if j=k then s else f j):=by
 intro j hj;have nb:¬(0<(f k).dn/\bs=kb k):=fun hx=>(h k hk).zPJ hx.1 hx.2.symm
 by_cases e:j=k
 ·subst e;rw[if_pos rfl];exact⟨c0.zPF t nb,c1.zPF t nb,c2.zPF t nb,c3.zPF t nb,c4.zPF t nb,c5.zPF t nb,hp,hs,by rw[cA];exact(h j hj).zPJ⟩
 ·rw[if_neg e];have aA:=h j hj;refine⟨(r.kept _ _ (by omega) aA.c0).zPF t nb,(r.kept _ _ (by omega) aA.c1).zPF t nb,(r.kept _ _ (by omega) aA.c2).zPF t nb,(r.kept _ _ (by omega) aA.c3).zPF t nb,(r.kept _ _ (by omega) aA.c4).zPF t nb,(r.kept _ _ (by omega) aA.c5).zPF t nb,?_,aA.zPN,aA.zPJ⟩;exact(aA.zPK.zPF r.zPF (fun h0 hx=>aA.zPJ h0 hx)).zPF t (fun h0 hx=>bA j k hj hk e h0 hx.1 hx.2)
theorem zL7{w w1 w2:World}{bs off n k:Nat}{kb:Nat->Nat}{kv:Nat->Value}{f:Nat->zY}{s:zY}(h:∀j,j<n->qe w bs (off+j*8) (kb j) (kv j) (f j))(bA:qw kb n f)(hk:k<n)
  (r:yZ bs (off+k*8) 8 w w1) (t:zF (fun b=>0<(f k).dn/\b=kb k) w1 w2) (c0:zQ w1 bs (off+k*8) (.int .i64 s.id)) (c1:zQ w1 bs ((off+k*8)+1) (.string s.name)) (c2:zQ w1 bs ((off+k*8)+2) (.string s.set)) (c3:zQ w1 bs ((off+k*8)+3) (.int .i64 s.zPH)) (c4:zQ w1 bs ((off+k*8)+4) (.int .i64 s.time)) (c5:zQ w1 bs ((off+k*8)+5) (.int .i64 s.rs)) (c6:zQ w1 bs ((off+k*8)+6) (.int .i64 s.rb)) (c7:zQ w1 bs (off+k*8+7) (kv k)) (cA:s.dn=(f k).dn) (hp:zj w2 (kb k) (kv k) s.dn s.ds s.db) (hs:s.name.size<=maxLen/\s.set.size<=maxLen) :
  ∀j,j<n->qe w2 bs (off+j*8) (kb j) (kv j) (if j=k then s else f j):=by
 intro j hj;have nb:¬(0<(f k).dn/\bs=kb k):=fun hx=>(h k hk).zPJ hx.1 hx.2.symm
 by_cases e:j=k
 ·subst e;rw[if_pos rfl];exact⟨c0.zPF t nb,c1.zPF t nb,c2.zPF t nb,c3.zPF t nb,c4.zPF t nb,c5.zPF t nb,c6.zPF t nb,c7.zPF t nb,hp,hs,by rw[cA];exact(h j hj).zPJ⟩
 ·rw[if_neg e];have aA:=h j hj;refine⟨(r.kept _ _ (by omega) aA.c0).zPF t nb,(r.kept _ _ (by omega) aA.c1).zPF t nb,(r.kept _ _ (by omega) aA.c2).zPF t nb,(r.kept _ _ (by omega) aA.c3).zPF t nb,(r.kept _ _ (by omega) aA.c4).zPF t nb,(r.kept _ _ (by omega) aA.c5).zPF t nb,(r.kept _ _ (by omega) aA.c6).zPF t nb,(r.kept _ _ (by omega) aA.c7).zPF t nb,?_,aA.zPN,aA.zPJ⟩;exact(aA.zPK.zPF r.zPF (fun h0 hx=>aA.zPJ h0 hx)).zPF t (fun h0 hx=>bA j k hj hk e h0 hx.1 hx.2)
end Go.Proofs.YtmgeglgboadfiaaGreatDoor
