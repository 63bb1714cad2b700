/- A part of the proof. -/
import Derived.Test.YtnfjcaoclahfjaaGreatDoorF24
set_option linter.unusedVariables false
set_option maxRecDepth 20000
set_option maxHeartbeats 4000000
namespace Go.Proofs.YtnfjcaoclahfjaaGreatDoor
open Go.RowKit
variable{k:Nat}
theorem zFb{w9:World}{bn off cn n:Nat}{kb:Nat->Nat}{kv:Nat->Value}{f:Nat->AT}(H:n<=maxLen)(x:n<=cn)(G:k<n)(B:∀i,i<n - 1->∀r,r<8->AF w9 bn (off+i*8+r) (EB (del f k) (del kv k) i r))(C:∀i,i<n->i≠k->Bm w9 (kb i) (kv i) (f i).dn (f i).ds (f i).db/\((f i).name.size<=maxLen/\(f i).set.size<=maxLen)/\(0<(f i).dn->kb i≠bn))(p:∀i j,i<n->j<n->i≠k->j≠k->i≠j->0<(f i).dn->0<(f j).dn->kb i≠kb j) :
 Fo w9 bn (del kb k) (del kv k) (.slice (some ⟨bn,off,none⟩) (n - 1) cn) (n - 1) (del f k)/\MM (del kb k) (n - 1) (del f k)/\∀j,Ic bn (del kb k) (n - 1) (del f k) j->SdR bn kb k n f j:=by
 have key:∀i,i<n - 1->∃b,b<n/\b≠k/\del kb k i=kb b/\del kv k i=kv b/\del f k i=f b/\b=(if i<k then i else i+1):=fun i hi=>by
  by_cases e:i<k
  ·exact⟨i,by omega,by omega,if_pos e,if_pos e,if_pos e,by rw[if_pos e]⟩
  ·exact⟨i+1,by omega,by omega,if_neg e,if_neg e,if_neg e,by rw[if_neg e]⟩
 refine⟨⟨by omega,_,_,rfl,by omega,fun _=>⟨off,rfl,fun i hi=>?_⟩⟩,fun i j hi D q v w=>?_,?_⟩
 ·have a:=B i hi;obtain⟨b,c,t,g,y,d,-⟩:=key i hi;have h:=C b c t;refine⟨a 0 (by omega),a 1 (by omega),a 2 (by omega),a 3 (by omega),a 4 (by omega),a 5 (by omega),a 6 (by omega),a 7 (by omega),?_,?_,?_⟩
  ·rw[g,y,d];exact h.1
  ·rw[d];exact h.2.1
  ·rw[g,d];exact h.2.2
 ·obtain⟨b,c,u,g,-,d,z⟩:=key i hi;obtain⟨E,s,F,l,-,m,A⟩:=key j D;rw[g,l];rw[d]at v;rw[m]at w;refine p b E c s u F (fun e=>q ?_) v w;rw[z,A]at e;split at e<;>split at e<;>omega
 ·rintro j (⟨o,rfl⟩ | ⟨i,hi,o,rfl⟩)
  ·exact Or.inl rfl
  ·obtain⟨b,c,u,g,-,d,-⟩:=key i hi;rw[d]at o;exact Or.inr ⟨b,c,u,o,g⟩
theorem zC8(p:Nat->Addr)(C k:Nat)(z0 z1 z2 z3:Value)(W:A4)(x:Int)(o:BQ)(w:World)(hI:Cf W)(ht:F2 (AB W (W.A0 k).A5).time)(hx:(Lit.int .i64 (W.A0 k).A5).wf=true)(mH:(Lit.int .i64 x).wf=true)(hk:BB W x k)(oE:(W.A0 k).dn<=1048576)(hO:(∃i,EO W x i/\o=⟨Gj W k i,0,((Cz W k i).length:Int),0⟩)\/∃i,EP W x i/\o=⟨Gk W k i,0,((D2 W k i).length:Int),0⟩)
 (fE:∀i,i<W.pn->C1 (W.A0 i).dn (W.A0 i).ds (W.A0 i).db/\CK W.pool (BE (W.A0 i).ds (W.A0 i).db (AB W (W.A0 k).A5).time (W.A0 i).dn)) (gE:∀i,i<W.sn->C1 (W.A2 i).dn (W.A2 i).ds (W.A2 i).db/\CK W.pool (BE (W.A2 i).ds (W.A2 i).db (AB W (W.A0 k).A5).time (W.A2 i).dn)) (gL:C<w.heap.size)
 (ho:DW w (C+1) w.heap.size z0 z1 z2 z3 W) (hC:BR w C z0 z1 (.int .i64 W.time) (.int .i64 W.next) z2 z3 (.int .i64 0) (.int .i64 0) .nilIface) :
 Calls Tryz.prog 18 #[.pointer (some ⟨C,0,none⟩),.int .i64 x] w (Mm p o C w):=by
 have h8:=hI.AP.A2.1;have bD:=hI.AP.A0.1;have U:=hk.1;have q:0<W.sn:=by
  obtain⟨j,Z,-⟩:=(hI.AP.A0.2.1 k U).1;omega
 obtain⟨P,Q,R,X,mA⟩:=ho;have cC:BM w (C+1) w.heap.size z0 z1 z2 z3 W:=EX.at ⟨P,Q,R,X.isIn,mA⟩;have HP:=A3 X.pool;have vC:=A3 (⟨X.pq,X.pr,X.qr⟩:(∀j,P j->¬Q j)/\(∀j,P j->¬R j)/\∀j,Q j->¬R j);obtain⟨D,ub,uv,hS,iE,aC,-,-⟩:=X.A2;obtain⟨H,sc,rfl,-⟩:=hS.nth q;obtain⟨bn,kb,kv,hN,sG,tG,-,vG⟩:=X.A0;obtain⟨iH,na,cn,rfl,eC,lH⟩:=id hN;obtain⟨off,rfl,-⟩:=lH (by omega);obtain⟨g,hg⟩:∃g,g=W.A0 k:=⟨_,rfl⟩;have Y:=A3 (show SdA w C k bn off cn W P Q R kb kv from⟨hN,sG,tG,vC.out.1,vC.out.2.1,vC.out.2.2,mA,U⟩);have iC:=(Y.out.rows.nthE U).dead;obtain⟨-,ga,gc,kC,-,-⟩:=id iC;have eD:=vG k U;rw[kC]at iC eD;rw[<-hg]at iC eD kC ht hx oE fE gE;have cG:=A3 iC;have bG:=A3 eD;have dG:=A3 kC;have HG:=A3 hg;have HI:=A3 hI;have Ht:=A3 ht;have Hx:=A3 hx;have HK:=A3 hk;have HO:=A3 hO;have mB:=A3 fE;have nB:=A3 gE;have aG:=A3 cC;have HC:=A3 hC;have kG:=A3 hS;have kI:=A3 iE;have lG:=A3 aC;have jG:=A3 (show Du w Q (.slice (some ⟨D,H,none⟩) W.sn sc) W.sn W.A2 from⟨D,ub,uv,hS,iE,aC⟩);have lI:=A3 (show ∀i,i<W.sn->E9 w D (H+i*6) (ub i) (uv i) (W.A2 i)from fun i hi=>by
  obtain⟨pC,c',ev,hx⟩:=hS.nth hi;simp only[Value.slice.injEq,Option.some.injEq,Addr.mk.injEq,and_true,true_and]at ev;obtain⟨rfl,rfl⟩:=ev;exact hx)
 have oK:=mA _ (Or.inr (Or.inr Y.out.inB));have pK:=mA _ (Or.inr (Or.inl (aC _ (Or.inl ⟨q,rfl⟩))));have dL:bn≠D:=fun e=>vC.out.2.2 D (aC _ (Or.inl ⟨q,rfl⟩)) (by rw[<-e];exact Y.out.inB)
 have eJ:=A9 w (.cells #[.pointer (some ⟨C,0,none⟩)] 57);have cH:=A9 (w.alloc (.cells #[.pointer (some ⟨C,0,none⟩)] 57)) (.cells #[.int .i64 x] 2);have sB:=A8 eJ cH;have nH:(w.alloc (.cells #[.pointer (some ⟨C,0,none⟩)] 57)).heap.size=w.heap.size+1:=World.size_alloc _ _;have nJ:((w.alloc (.cells #[.pointer (some ⟨C,0,none⟩)] 57)).alloc (.cells #[.int .i64 x] 2)).heap.size=w.heap.size+2:=by rw[World.size_alloc,nH]
 have cP:((w.alloc (.cells #[.pointer (some ⟨C,0,none⟩)] 57)).alloc (.cells #[.int .i64 x] 2)).cell? ⟨w.heap.size,0,none⟩=some (.pointer (some ⟨C,0,none⟩)):=by
  have c0:(w.alloc (.cells #[.pointer (some ⟨C,0,none⟩)] 57)).cell? ⟨w.heap.size,0,none⟩=some (.pointer (some ⟨C,0,none⟩)):=World.cell?_alloc_at _ _ _ _ rfl;exact(cH.cell (AM c0)).trans c0
 have cI:((w.alloc (.cells #[.pointer (some ⟨C,0,none⟩)] 57)).alloc (.cells #[.int .i64 x] 2)).cell? ⟨w.heap.size+1,0,none⟩=some (.int .i64 x):=by
  have:((w.alloc (.cells #[.pointer (some ⟨C,0,none⟩)] 57)).alloc (.cells #[.int .i64 x] 2)).cell? ⟨(w.alloc (.cells #[.pointer (some ⟨C,0,none⟩)] 57)).heap.size,0,none⟩=some (.int .i64 x):=World.cell?_alloc_at _ _ _ _ rfl
  rwa [nH]at this
 have sC:=A3 cP;have rC:=A3 cI;have lB:=A3 (zAn C (C+1) w.heap.size k cn kv ga gc z0 z1 (.slice (some ⟨D,H,none⟩) W.sn sc) (.int .i64 0) (.int .i64 0) .nilIface (some ⟨bn,off,none⟩) W x ((w.alloc (.cells #[.pointer (some ⟨C,0,none⟩)] 57)).alloc (.cells #[.int .i64 x] 2)) (cC.A1 sB) (fun i hi=>⟨bn,off,rfl,((Y.out.rows.nthE hi).cells (fun l=>mA _ (Or.inr (Or.inr (Y.out.inK hi l).1)))).A1 sB⟩) (hC.A1 sB) hk (by rw[<-hg];exact kC) bD hI.AP.idsWf hI.AP.dist mH);rw[<-hg]at lB;unfold BX at lB;have iJ:∀(fn:Fn) (first cap:Array Value) (w:World),(Instr.makeFunc fn first cap).run Tryz.prog w = .ok (.func fn first cap) w:=fun _ _ _ _=>rfl
 clear X hS iE aC hN sG tG vG hC hI ht hx mH hk hO fE gE cC lH iC eD kC hg mA;go_enter Tryz.func18,Tryz.ntmps18;go_wp2_with fail;clear cP cI;generalize ((w.alloc (.cells #[.pointer (some ⟨C,0,none⟩)] 57)).alloc (.cells #[.int .i64 x] 2))=w2 at sB nJ sC rC lB ⊢;refine lB.out.mono ?_;clear lB;rintro e wA ⟨rfl,nE⟩;have pJ:=nE.size;have mE:=A9 wA (.cells #[.int .i64 g.id,.string g.name,.string g.set,.int .i64 g.A5,.int .i64 g.time,.int .i64 g.rs,.int .i64 g.rb,.slice ga g.dn gc] 43);have sA:=A8 nE mE;have aB:=A8 sB sA;have jA:=A3 (CG.new wA (.int .i64 g.id) (.string g.name) (.string g.set) (.int .i64 g.A5) (.int .i64 g.time) (.int .i64 g.rs) (.int .i64 g.rb) (.slice ga g.dn gc) 43);have oH:(wA.alloc (.cells #[.int .i64 g.id,.string g.name,.string g.set,.int .i64 g.A5,.int .i64 g.time,.int .i64 g.rs,.int .i64 g.rb,.slice ga g.dn gc] 43)).heap.size=wA.heap.size+1:=World.size_alloc _ _;have J:=A3 ((sA.cell (AM sC.out)).trans sC.out);have V:=A3 ((sA.cell (AM rC.out)).trans rC.out);have cP:=J.out;have c5:=(HC.out.A1 aB).2.2.2.2.2.1.1;go_wp2_with fail;clear cP c5 sC rC;generalize (wA.alloc (.cells #[.int .i64 g.id,.string g.name,.string g.set,.int .i64 g.A5,.int .i64 g.time,.int .i64 g.rs,.int .i64 g.rb,.slice ga g.dn gc] 43))=w3 at mE sA aB jA oH J V ⊢;obtain⟨G,hG⟩:∃G,G=wA.heap.size:=⟨_,rfl⟩;rw[<-hG]at jA pJ oH ⊢;clear hG mE sA nE
 go_loopw [20] (fun bK wr=>∃i:Nat,i<=W.pn/\bK = .int .i64 i/\((Below w3.heap.size w3 wr/\∀i0,EO W x i0->i<=i0)\/∃i0,EO W x i0/\i0<i/\SdE w wr C w.heap.size (w.heap.size+1) k bn off cn (.slice (some ⟨D,H,none⟩) W.sn sc) W x (Ak W.pool (Cz W k i0)) ((Cz W k i0).length:Int) W.A2 (E7 W k i0))) (fun i _=>W.pn - (intOf i).toNat)
 case atStart=>exact⟨0,Nat.zero_le _,rfl,Or.inl ⟨Below.refl _ _,fun _ _=>Nat.zero_le _⟩⟩
 case round=>
  obtain⟨i,eL,rfl,v⟩:=hrel;by_cases d:i<W.pn
  ·have eA:(i:Int)<(W.pn:Int):=(by omega);by_cases hq:(W.A0 i).A5=x
   ·have cD:EO W x i:=by
     rcases HO.out with⟨i1,I,-⟩ | ⟨i1,I,-⟩
     ·by_cases e:i=i1
      ·rw[e];exact I
      ·exact absurd hq (I.2.2.1 i d e)
     ·exact absurd hq (I.2.2.2 i d)
    have pA:Below w3.heap.size w3 wr:=by
     rcases v with h | ⟨i0,l,I,-⟩
     ·exact h.1
     ·exact absurd hq (l.2.2.1 i d (by omega))
    clear v;have tB:=A8 aB pA;have pH:=pA.size;have q:=(Y.out.rows.nthE d).A1 tB;obtain⟨b,O⟩:∃b,b=W.A0 i:=⟨_,rfl⟩;rw[<-O]at q hq;obtain⟨-,y,z,N,-,-⟩:=id q.dead;have eB:=q.dead.at (lo:=0) (hi:=wr.heap.size) (fun l=>⟨Nat.zero_le _,q.deadLt l⟩);rw[N]at eB;obtain⟨q0,-⟩:=q.c0;obtain⟨q1,-⟩:=q.c1;obtain⟨q2,-⟩:=q.c2;obtain⟨q3,-⟩:=q.c3;obtain⟨q4,-⟩:=q.c4;obtain⟨q5,-⟩:=q.c5;obtain⟨q6,-⟩:=q.c6;obtain⟨q7,-⟩:=q.c7;rw[N]at q7;have sD:=A3 eB;have M:=A3 O;have HQ:=A3 hq;have a1:(b.A5 == x)=true:=beq_iff_eq.2 hq;have E:=A9 wr (.cells #[.int .i64 b.id,.string b.name,.string b.set,.int .i64 b.A5,.int .i64 b.time,.int .i64 b.rs,.int .i64 b.rb,.slice y b.dn z] 43);have HX:=A3 (CG.new wr (.int .i64 b.id) (.string b.name) (.string b.set) (.int .i64 b.A5) (.int .i64 b.time) (.int .i64 b.rs) (.int .i64 b.rb) (.slice y b.dn z) 43);have bF:(wr.alloc (.cells #[.int .i64 b.id,.string b.name,.string b.set,.int .i64 b.A5,.int .i64 b.time,.int .i64 b.rs,.int .i64 b.rb,.slice y b.dn z] 43)).heap.size=wr.heap.size+1:=World.size_alloc _ _;have cA:(wr.alloc (.cells #[.int .i64 b.id,.string b.name,.string b.set,.int .i64 b.A5,.int .i64 b.time,.int .i64 b.rs,.int .i64 b.rb,.slice y b.dn z] 43)).cell? ⟨w.heap.size+1,0,none⟩=some (.int .i64 x):=((A8 pA E).cell (AM V.out)).trans V.out;obtain⟨⟨⟨y0,-⟩,⟨y1,-⟩,⟨y2,-⟩,⟨y3,-⟩⟩,⟨y4,-⟩,⟨y5,-⟩,⟨y6,-⟩,⟨y7,-⟩⟩:=HX.out;clear q N eB O hq;go_upto_region 7 with fail;clear q0 y0 q1 y1 q2 y2 q3 y3 q4 y4 q5 y5 q6 y6 q7 y7 a1 cA;generalize (wr.alloc (.cells #[.int .i64 b.id,.string b.name,.string b.set,.int .i64 b.A5,.int .i64 b.time,.int .i64 b.rs,.int .i64 b.rb,.slice y b.dn z] 43))=w5 at E HX bF ⊢;have dE:=A8 tB E;have dC:=A8 pA E;have gJ:b.dn<=200:=(by rw[M.out];exact(mB.out i d).1.1);have L:Below w5.heap.size w5 w5.drew:=(Below.refl _ _).drew;have F:=A8 dE L;have n:=A8 dC L;have oD:=A3 (show(fun w':World=>w'.cell? ⟨w.heap.size,0,none⟩=some (.pointer (some ⟨C,0,none⟩))/\w'.cell? ⟨C,5,none⟩=some (.slice (some ⟨bn,off,none⟩) W.pn cn)/\w'.cell? ⟨G,3,none⟩=some (.int .i64 g.A5)/\w'.cell? ⟨wr.heap.size,7,none⟩=some (.slice y b.dn z)) w5.drew from⟨(n.cell (AM J.out)).trans J.out,(HC.out.A1 F).2.2.2.2.2.1.1,(jA.out.A1 n).1.2.2.2.1,(HX.out.A1 L).2.2.2.2.1⟩);refine wp_region_held_drew (S:=(fun w':World=>w'.cell? ⟨w.heap.size,0,none⟩=some (.pointer (some ⟨C,0,none⟩))/\w'.cell? ⟨C,5,none⟩=some (.slice (some ⟨bn,off,none⟩) W.pn cn)/\w'.cell? ⟨G,3,none⟩=some (.int .i64 g.A5)/\w'.cell? ⟨wr.heap.size,7,none⟩=some (.slice y b.dn z))) (by kernel_rfl) oD.out (fun hHeld=>?_);have mC:w5.drew.heap.size=w5.heap.size:=rfl;have pB:=A3 (HX.out.A1 L);have oB:=A3 (sD.out.A1 (A8 E L));generalize w5.drew=q0 at hHeld F n mC pB oB ⊢;refine tk 0 (h:=tk 1 (h:=tk 2 (h:=tk 3 (h:=tk 4 (h:=tk 5 (h:=tk 6 (h:=tk 7 (h:=tk 8 (h:=tk 9 (h:=tk 10 (h:=tk 11 (h:=tk 12 (h:=tk 13 (h:=tk 14 (h:=tk 15 (h:=tk 16 (h:=?_)))))))))))))))));refine rd [17] (rc (fun K hK=>?_) .nil);go_simp;go_at_call 49;refine(Ul C G w.heap.size (kb k) 0 wr.heap.size b.dn P _ _ _ _ _ ga gc 0 W g b.ds b.db q0 ((aG.out.A1 F).wide (Nat.zero_le _) F.size) bD HI.out.AP.idsWf HI.out.AP.dist Hx.out Ht.out (HC.out.A1 F) (HP.out.A1 F) (fun j Z=>by have:=Y.out.lt j (Or.inl Z);omega) ⟨(jA.out.A1 n).1.2.2.2.1,(jA.out.A1 n).2.2.2.2.1,(n.cell (AM J.out)).trans J.out⟩ ⟨by omega,by omega⟩ (fun l=>?_) (cG.out.A1 F) (bG.out.A1 F) oE oB.out (by rw[M.out];exact(mB.out i d).1) (by rw[M.out];exact(mB.out i d).2) (by omega) (by omega)).mono ?_
    ·have:=Y.out.lt _ (Or.inr (Or.inr (Y.out.inK U (by rw[<-HG.out];exact l)).1));exact⟨by omega,by omega,by omega,by omega,fun hp=>Y.out.pr _ hp (Y.out.inK U (by rw[<-HG.out];exact l)).1⟩
    obtain⟨OL,oA⟩:∃OL,OL=BS b.ds b.db (AB W g.A5).time b.dn:=⟨_,rfl⟩;rw[<-oA];rintro e w7 ⟨na,nc,nb,y0,y1,iF,rfl,tA,sE,tE,lC,nA,vB,T,dA⟩;have oJ:=T.size;have jC:∀j,(0<g.dn/\j=kb k)->R j/\j≠bn:=fun j Z=>by rw[Z.2];exact Y.out.inK U (by rw[<-HG.out];exact Z.1)
    have fA:∀j,w.heap.size<=j->¬(j=C\/(0<g.dn/\j=kb k)):=fun j Z e=>by
     rcases e with e | e
     ·omega
     ·have:=Y.out.lt j (Or.inr (Or.inr (jC j e).1));omega
    have s:(fun w':World=>w'.cell? ⟨w.heap.size,0,none⟩=some (.pointer (some ⟨C,0,none⟩))/\w'.cell? ⟨C,5,none⟩=some (.slice (some ⟨bn,off,none⟩) W.pn cn)/\w'.cell? ⟨G,3,none⟩=some (.int .i64 g.A5)/\w'.cell? ⟨wr.heap.size,7,none⟩=some (.slice y b.dn z)) w7:=⟨(T.cell (o:=0) (show w.heap.size<q0.heap.size by omega) (fA _ (Nat.le_refl _))).trans ((n.cell (AM J.out)).trans J.out),nA.2.2.2.2.2.1.1,(T.cell (o:=3) (show G<q0.heap.size by omega) (fA _ (by omega))).trans (jA.out.A1 n).1.2.2.2.1,(T.cell (o:=7) (show wr.heap.size<q0.heap.size by omega) (fA _ (by omega))).trans pB.out.2.2.2.2.1⟩;have HN:=A3 (show SdN w q0 w7 C w.heap.size (w.heap.size+1) k bn off cn nb iF y0 y1 (.slice (some ⟨D,H,none⟩) W.sn sc) (.slice na (g.dn+OL.length) nc) W x ((sdY W (W.A0 k) (W.A0 i).dn (W.A0 i).ds (W.A0 i).db).length:Int) P kb kv (Ak W.pool (sdY W (W.A0 k) (W.A0 i).dn (W.A0 i).ds (W.A0 i).db)) (sdD W (W.A0 k) (W.A0 i).dn (W.A0 i).ds (W.A0 i).db)from by
     have e1:sdD W (W.A0 k) (W.A0 i).dn (W.A0 i).ds (W.A0 i).db=B3 g.dn g.ds g.db ++ OL:=(by unfold sdD sdO;rw[<-M.out,<-HG.out,oA]);have e2:sdY W (W.A0 k) (W.A0 i).dn (W.A0 i).ds (W.A0 i).db=BE b.ds b.db (AB W g.A5).time b.dn:=(by unfold sdY;rw[<-M.out,<-HG.out]);rw[e1,e2];rw[Int.zero_add]at nA;refine⟨F,nA,s.1,(T.cell (o:=0) (show w.heap.size+1<q0.heap.size by omega) (fA _ (by omega))).trans ((n.cell (AM V.out)).trans V.out),⟨Nat.le_refl _,by omega⟩,vB,by rw[<-HG.out];exact T,sE,tE,tA,fun l=>?_,by rw[<-HG.out,dG.out];exact dA⟩;rw[<-HG.out];exact lC (by rw[List.length_append,Eo]at l;exact l))
    have rA:=Y.out.BI HN.out d;obtain⟨m3,dF⟩:=rA.c3;obtain⟨m7,oC⟩:=rA.c7;obtain⟨vJ,rE⟩:∃u,kv i=u:=⟨_,rfl⟩;obtain⟨-,ak,ck,rB,-,-⟩:=rA.dead;rw[rB]at m7;have eA:(i:Int)<(W.pn:Int):=(by omega);have A:(fun w':World=>w'.cell? ⟨w.heap.size,0,none⟩=some (.pointer (some ⟨C,0,none⟩))/\w'.cell? ⟨C,5,none⟩=some (.slice (some ⟨bn,off,none⟩) W.pn cn)/\w'.cell? ⟨G,3,none⟩=some (.int .i64 g.A5)/\w'.cell? ⟨wr.heap.size,7,none⟩=some (.slice y b.dn z)) (w7.setCell ⟨bn,off+i*8+3,none⟩ (.int .i64 g.A5)):=by
     have t:=AC.put w7 bn (off+i*8+3) (.int .i64 g.A5);exact⟨(t.cell (AM s.1) (by omega)).trans s.1,(t.cell (AM s.2.1) (by omega)).trans s.2.1,(t.cell (AM s.2.2.1) (by omega)).trans s.2.2.1,(t.cell (AM s.2.2.2) (by omega)).trans s.2.2.2⟩
    have kA:(fun w':World=>w'.cell? ⟨w.heap.size,0,none⟩=some (.pointer (some ⟨C,0,none⟩))/\w'.cell? ⟨C,5,none⟩=some (.slice (some ⟨bn,off,none⟩) W.pn cn)/\w'.cell? ⟨G,3,none⟩=some (.int .i64 g.A5)/\w'.cell? ⟨wr.heap.size,7,none⟩=some (.slice y b.dn z)) ((w7.setCell ⟨bn,off+i*8+3,none⟩ (.int .i64 g.A5)).setCell ⟨bn,off+i*8+7,none⟩ (.slice na (g.dn+OL.length) nc)):=by
     have t:=AC.put (w7.setCell ⟨bn,off+i*8+3,none⟩ (.int .i64 g.A5)) bn (off+i*8+7) (.slice na (g.dn+OL.length) nc);exact⟨(t.cell (AM A.1) (by omega)).trans A.1,(t.cell (AM A.2.1) (by omega)).trans A.2.1,(t.cell (AM A.2.2.1) (by omega)).trans A.2.2.1,(t.cell (AM A.2.2.2) (by omega)).trans A.2.2.2⟩
    have gI:=A3 oA;have m8:((w7.setCell ⟨bn,off+i*8+3,none⟩ (.int .i64 g.A5))).cell? ⟨bn,off+i*8+7,none⟩=some (.slice ak (W.A0 i).dn ck):=(World.cell?_setCell_other _ _ _ _ (by simp)).trans m7;have gF:((w7.setCell ⟨bn,off+i*8+3,none⟩ (.int .i64 g.A5))).frozen? ⟨bn,off+i*8+7,none⟩=false:=(World.frozen?_setCell _ _ _ _).trans oC;have pD:=A3 A;have rD:=A3 kA;clear tA lC nA vB T dA jC fA rA oA A kA rB rE
    (try go_wp2_with fail)
    refine hK.out _ _ (s) ?_;clear hK K hHeld;intro hHeld
    try simp only[Act.put,s1,s2,s3]
    clear s;refine tk 18 (h:=tk 19 (h:=?_));refine rd [20] (rc (fun K hK=>?_) .nil);go_simp
    (try go_wp2_with fail)
    refine hK.out _ _ (pD.out) ?_;clear hK K hHeld;intro hHeld
    try simp only[Act.put,s1,s2,s3]
    clear m3 dF;refine tk 21 (h:=tk 22 (h:=?_));refine rd [23] (rc (fun K hK=>?_) .nil);go_simp
    (try go_wp2_with fail)
    refine hK.out _ _ (rD.out) ?_;clear hK K hHeld;intro hHeld
    try simp only[Act.put,s1,s2,s3]
    refine wpAnyH_done (by kernel_rfl) ?_ _;clear hHeld m7 oC m8 gF;go_wp2_with fail;go_roundw
    case rel=>
     refine⟨i+1,by omega,by go_num,Or.inr ⟨i,cD,by omega,?_⟩⟩;have hE:=zFT Y.out HN.out jG.out d (fun e=>by
      have I:=(HI.out.AP.A0.2.1 k U).2.2.1;have h2:=cD.2.1;rw[e,HK.out.2.1.symm]at h2;omega)
     rw[<-HG.out]at hE;unfold Cz;rw[<-HG.out];exact hE
    case measure=>simp[intOf];omega
   ·have fC:∃y z,wr.cell? ⟨bn,off+i*8,none⟩=some (.int .i64 (W.A0 i).id)/\wr.cell? ⟨bn,off+i*8+1,none⟩=some (.string (W.A0 i).name)/\wr.cell? ⟨bn,off+i*8+2,none⟩=some (.string (W.A0 i).set)/\wr.cell? ⟨bn,off+i*8+3,none⟩=some (.int .i64 (W.A0 i).A5)/\wr.cell? ⟨bn,off+i*8+4,none⟩=some (.int .i64 (W.A0 i).time)/\wr.cell? ⟨bn,off+i*8+5,none⟩=some (.int .i64 (W.A0 i).rs)/\wr.cell? ⟨bn,off+i*8+6,none⟩=some (.int .i64 (W.A0 i).rb)/\wr.cell? ⟨bn,off+i*8+7,none⟩=some (.slice y (W.A0 i).dn z):=by
     rcases v with h | ⟨i0,l,I,h⟩
     ·have hs:=(Y.out.rows.nthE d).A1 (A8 aB h.1);obtain⟨-,y,z,N,-,-⟩:=id hs.dead;exact⟨y,z,⟨hs.c0.1,hs.c1.1,hs.c2.1,hs.c3.1,hs.c4.1,hs.c5.1,hs.c6.1,by have:=hs.c7.1;rw[N]at this;exact this⟩⟩
     ·obtain⟨_,_,_,_,_,_,_,_,_,_,_,h6,_⟩:=h;have hs:=h6 i d;rw[show E7 W k i0 i=W.A0 i from if_neg (by omega)]at hs;obtain⟨-,y,z,N,-,-⟩:=id hs.dead;exact⟨y,z,⟨hs.c0.1,hs.c1.1,hs.c2.1,hs.c3.1,hs.c4.1,hs.c5.1,hs.c6.1,by have:=hs.c7.1;rw[N]at this;exact this⟩⟩
    have bB:wr.cell? ⟨w.heap.size+1,0,none⟩=some (.int .i64 x):=by
     rcases v with h | ⟨i0,l,I,h⟩
     ·exact(h.1.cell (AM V.out)).trans V.out
     ·obtain⟨_,_,_,_,_,_,_,h2,_⟩:=h;exact h2.2
    obtain⟨b,O⟩:∃b,b=W.A0 i:=⟨_,rfl⟩;rw[<-O]at fC hq;obtain⟨y,z,q0,q1,q2,q3,q4,q5,q6,q7⟩:=fC;have M:=A3 O;have HQ:=A3 hq;have gB:=A3 v;have a1:(b.A5 == x)=false:=beq_eq_false_iff_ne.2 hq;have E:=A9 wr (.cells #[.int .i64 b.id,.string b.name,.string b.set,.int .i64 b.A5,.int .i64 b.time,.int .i64 b.rs,.int .i64 b.rb,.slice y b.dn z] 43);have HX:=A3 (CG.new wr (.int .i64 b.id) (.string b.name) (.string b.set) (.int .i64 b.A5) (.int .i64 b.time) (.int .i64 b.rs) (.int .i64 b.rb) (.slice y b.dn z) 43);have cA:(wr.alloc (.cells #[.int .i64 b.id,.string b.name,.string b.set,.int .i64 b.A5,.int .i64 b.time,.int .i64 b.rs,.int .i64 b.rb,.slice y b.dn z] 43)).cell? ⟨w.heap.size+1,0,none⟩=some (.int .i64 x):=(E.cell (AM bB)).trans bB;obtain⟨⟨⟨y0,-⟩,⟨y1,-⟩,⟨y2,-⟩,⟨y3,-⟩⟩,⟨y4,-⟩,⟨y5,-⟩,⟨y6,-⟩,⟨y7,-⟩⟩:=HX.out;clear O hq v bB;go_wp2_with fail;clear q0 y0 q1 y1 q2 y2 q3 y3 q4 y4 q5 y5 q6 y6 q7 y7 a1 cA;go_roundw
    case rel=>
     refine⟨i+1,by omega,by go_num,?_⟩
     ·have v:=gB.out;rcases v with h | ⟨i0,l,I,h⟩
      ·refine Or.inl ⟨A8 h.1 E,fun i0 l=>?_⟩;have I:=h.2 i0 l;have h2:i≠i0:=fun e=>HQ.out (by rw[M.out,e];exact l.2.1)
       omega
      ·exact Or.inr ⟨i0,l,by omega,h.A1 E⟩
    case measure=>simp[intOf];omega
  ·obtain rfl:i=W.pn:=(by omega);have lJ:wr.cell? ⟨w.heap.size,0,none⟩=some (.pointer (some ⟨C,0,none⟩))/\wr.cell? ⟨C,4,none⟩=some (.slice (some ⟨D,H,none⟩) W.sn sc):=by
    rcases v with h | ⟨i0,l,I,h⟩
    ·exact⟨(h.1.cell (AM J.out)).trans J.out,((HC.out.A1 (A8 aB h.1)).2.2.2.2.1).1⟩
    ·obtain⟨_,_,_,_,_,_,I,h2,_⟩:=h;exact⟨h2.1,I.2.2.2.2.1.1⟩
   obtain⟨r1,r2⟩:=lJ;have gB:=A3 v;clear v;go_wp2_with fail;clear r1 r2
   go_loopw [58] (fun cK wr=>∃i:Nat,i<=W.sn/\cK = .int .i64 i/\((Below w3.heap.size w3 wr/\∃i0,EP W x i0/\i<=i0)\/(∃i0,EO W x i0/\SdE w wr C w.heap.size (w.heap.size+1) k bn off cn (.slice (some ⟨D,H,none⟩) W.sn sc) W x (Ak W.pool (Cz W k i0)) ((Cz W k i0).length:Int) W.A2 (E7 W k i0))\/∃i0,EP W x i0/\i0<i/\SdE w wr C w.heap.size (w.heap.size+1) k bn off cn (.slice (some ⟨D,H,none⟩) W.sn sc) W x (Ak W.pool (D2 W k i0)) ((D2 W k i0).length:Int) (Fs W k i0) W.A0)) (fun i _=>W.sn - (intOf i).toNat)
   case atStart=>
    refine⟨0,Nat.zero_le _,rfl,?_⟩;rcases gB.out with h | ⟨i0,l,I,h⟩
    ·rcases HO.out with⟨i1,I,-⟩ | ⟨i1,I,-⟩
     ·have h2:=h.2 i1 I;have h3:=I.1;omega
     ·exact Or.inl ⟨h.1,i1,I,Nat.zero_le _⟩
    ·exact Or.inr (Or.inl ⟨i0,l,h⟩)
   case round=>
    clear gB;obtain⟨i,fL,rfl,v⟩:=hrel;by_cases d:i<W.sn
    ·have eA:(i:Int)<(W.sn:Int):=(by omega);by_cases hq:(W.A2 i).A5=x
     ·have cD:EP W x i:=by
       rcases HO.out with⟨i1,I,-⟩ | ⟨i1,I,-⟩
       ·exact absurd hq (I.2.2.2 i d)
       ·by_cases e:i=i1
        ·rw[e];exact I
        ·exact absurd hq (I.2.2.1 i d e)
      have pA:Below w3.heap.size w3 wr:=by
       rcases v with h | ⟨i0,l,-⟩ | ⟨i0,l,I,-⟩
       ·exact h.1
       ·exact absurd hq (l.2.2.2 i d)
       ·exact absurd hq (l.2.2.1 i d (by omega))
      clear v;have tB:=A8 aB pA;have pH:=pA.size;have q:=(lI.out i d).A1 tB;obtain⟨b,O⟩:∃b,b=W.A2 i:=⟨_,rfl⟩;rw[<-O]at q hq;obtain⟨-,y,z,N,-,-⟩:=id q.dead;have eB:=q.dead.at (lo:=0) (hi:=wr.heap.size) (fun l=>⟨Nat.zero_le _,q.deadLt l⟩);rw[N]at eB;obtain⟨q0,-⟩:=q.c0;obtain⟨q1,-⟩:=q.c1;obtain⟨q2,-⟩:=q.c2;obtain⟨q3,-⟩:=q.c3;obtain⟨q4,-⟩:=q.c4;obtain⟨q5,-⟩:=q.c5;rw[N]at q5;have sD:=A3 eB;have M:=A3 O;have HQ:=A3 hq;have a1:(b.A5 == x)=true:=beq_iff_eq.2 hq;have E:=A9 wr (.cells #[.string b.name,.int .i64 b.origin,.int .i64 b.A5,.int .i64 b.rs,.int .i64 b.rb,.slice y b.dn z] 70);have HX:=A3 (Af.new wr (.string b.name) (.int .i64 b.origin) (.int .i64 b.A5) (.int .i64 b.rs) (.int .i64 b.rb) (.slice y b.dn z) 70);have bF:(wr.alloc (.cells #[.string b.name,.int .i64 b.origin,.int .i64 b.A5,.int .i64 b.rs,.int .i64 b.rb,.slice y b.dn z] 70)).heap.size=wr.heap.size+1:=World.size_alloc _ _;have cA:(wr.alloc (.cells #[.string b.name,.int .i64 b.origin,.int .i64 b.A5,.int .i64 b.rs,.int .i64 b.rb,.slice y b.dn z] 70)).cell? ⟨w.heap.size+1,0,none⟩=some (.int .i64 x):=((A8 pA E).cell (AM V.out)).trans V.out;obtain⟨y0,y1,y2,y3,y4,y5⟩:=HX.out.c;clear q N eB O hq;go_upto_region 13 with fail;clear q0 y0 q1 y1 q2 y2 q3 y3 q4 y4 q5 y5 a1 cA;generalize (wr.alloc (.cells #[.string b.name,.int .i64 b.origin,.int .i64 b.A5,.int .i64 b.rs,.int .i64 b.rb,.slice y b.dn z] 70))=w5 at E HX bF ⊢;have dE:=A8 tB E;have dC:=A8 pA E;have gJ:b.dn<=200:=(by rw[M.out];exact(nB.out i d).1.1);have L:Below w5.heap.size w5 w5.drew:=(Below.refl _ _).drew;have F:=A8 dE L;have n:=A8 dC L;have oD:=A3 (show(fun w':World=>w'.cell? ⟨w.heap.size,0,none⟩=some (.pointer (some ⟨C,0,none⟩))/\w'.cell? ⟨C,4,none⟩=some (.slice (some ⟨D,H,none⟩) W.sn sc)/\w'.cell? ⟨G,3,none⟩=some (.int .i64 g.A5)/\w'.cell? ⟨wr.heap.size,5,none⟩=some (.slice y b.dn z)) w5.drew from⟨(n.cell (AM J.out)).trans J.out,(HC.out.A1 F).2.2.2.2.1.1,(jA.out.A1 n).1.2.2.2.1,(HX.out.A1 L).2.2.2.2.2.1⟩);refine wp_region_held_drew (S:=(fun w':World=>w'.cell? ⟨w.heap.size,0,none⟩=some (.pointer (some ⟨C,0,none⟩))/\w'.cell? ⟨C,4,none⟩=some (.slice (some ⟨D,H,none⟩) W.sn sc)/\w'.cell? ⟨G,3,none⟩=some (.int .i64 g.A5)/\w'.cell? ⟨wr.heap.size,5,none⟩=some (.slice y b.dn z))) (by kernel_rfl) oD.out (fun hHeld=>?_);have mC:w5.drew.heap.size=w5.heap.size:=rfl;have pB:=A3 (HX.out.A1 L);have oB:=A3 (sD.out.A1 (A8 E L));generalize w5.drew=q0 at hHeld F n mC pB oB ⊢;refine tk 0 (h:=tk 1 (h:=tk 2 (h:=tk 3 (h:=tk 4 (h:=tk 5 (h:=tk 6 (h:=tk 7 (h:=tk 8 (h:=tk 9 (h:=tk 10 (h:=tk 11 (h:=tk 12 (h:=tk 13 (h:=tk 14 (h:=tk 15 (h:=tk 16 (h:=?_)))))))))))))))));refine rd [17] (rc (fun K hK=>?_) .nil);go_simp;go_at_call 49;refine(Ul C G w.heap.size (kb k) 0 wr.heap.size b.dn P _ _ _ _ _ ga gc 0 W g b.ds b.db q0 ((aG.out.A1 F).wide (Nat.zero_le _) F.size) bD HI.out.AP.idsWf HI.out.AP.dist Hx.out Ht.out (HC.out.A1 F) (HP.out.A1 F) (fun j Z=>by have:=Y.out.lt j (Or.inl Z);omega) ⟨(jA.out.A1 n).1.2.2.2.1,(jA.out.A1 n).2.2.2.2.1,(n.cell (AM J.out)).trans J.out⟩ ⟨by omega,by omega⟩ (fun l=>?_) (cG.out.A1 F) (bG.out.A1 F) oE oB.out (by rw[M.out];exact(nB.out i d).1) (by rw[M.out];exact(nB.out i d).2) (by omega) (by omega)).mono ?_
      ·have:=Y.out.lt _ (Or.inr (Or.inr (Y.out.inK U (by rw[<-HG.out];exact l)).1));exact⟨by omega,by omega,by omega,by omega,fun hp=>Y.out.pr _ hp (Y.out.inK U (by rw[<-HG.out];exact l)).1⟩
      obtain⟨OL,oA⟩:∃OL,OL=BS b.ds b.db (AB W g.A5).time b.dn:=⟨_,rfl⟩;rw[<-oA];rintro e w7 ⟨na,nc,nb,y0,y1,iF,rfl,tA,sE,tE,lC,nA,vB,T,dA⟩;have oJ:=T.size;have jC:∀j,(0<g.dn/\j=kb k)->R j/\j≠bn:=fun j Z=>by rw[Z.2];exact Y.out.inK U (by rw[<-HG.out];exact Z.1)
      have fA:∀j,w.heap.size<=j->¬(j=C\/(0<g.dn/\j=kb k)):=fun j Z e=>by
       rcases e with e | e
       ·omega
       ·have:=Y.out.lt j (Or.inr (Or.inr (jC j e).1));omega
      have s:(fun w':World=>w'.cell? ⟨w.heap.size,0,none⟩=some (.pointer (some ⟨C,0,none⟩))/\w'.cell? ⟨C,4,none⟩=some (.slice (some ⟨D,H,none⟩) W.sn sc)/\w'.cell? ⟨G,3,none⟩=some (.int .i64 g.A5)/\w'.cell? ⟨wr.heap.size,5,none⟩=some (.slice y b.dn z)) w7:=⟨(T.cell (o:=0) (show w.heap.size<q0.heap.size by omega) (fA _ (Nat.le_refl _))).trans ((n.cell (AM J.out)).trans J.out),nA.2.2.2.2.1.1,(T.cell (o:=3) (show G<q0.heap.size by omega) (fA _ (by omega))).trans (jA.out.A1 n).1.2.2.2.1,(T.cell (o:=5) (show wr.heap.size<q0.heap.size by omega) (fA _ (by omega))).trans pB.out.2.2.2.2.2.1⟩;have HN:=A3 (show SdN w q0 w7 C w.heap.size (w.heap.size+1) k bn off cn nb iF y0 y1 (.slice (some ⟨D,H,none⟩) W.sn sc) (.slice na (g.dn+OL.length) nc) W x ((sdY W (W.A0 k) (W.A2 i).dn (W.A2 i).ds (W.A2 i).db).length:Int) P kb kv (Ak W.pool (sdY W (W.A0 k) (W.A2 i).dn (W.A2 i).ds (W.A2 i).db)) (sdD W (W.A0 k) (W.A2 i).dn (W.A2 i).ds (W.A2 i).db)from by
       have e1:sdD W (W.A0 k) (W.A2 i).dn (W.A2 i).ds (W.A2 i).db=B3 g.dn g.ds g.db ++ OL:=(by unfold sdD sdO;rw[<-M.out,<-HG.out,oA]);have e2:sdY W (W.A0 k) (W.A2 i).dn (W.A2 i).ds (W.A2 i).db=BE b.ds b.db (AB W g.A5).time b.dn:=(by unfold sdY;rw[<-M.out,<-HG.out]);rw[e1,e2];rw[Int.zero_add]at nA;refine⟨F,nA,s.1,(T.cell (o:=0) (show w.heap.size+1<q0.heap.size by omega) (fA _ (by omega))).trans ((n.cell (AM V.out)).trans V.out),⟨Nat.le_refl _,by omega⟩,vB,by rw[<-HG.out];exact T,sE,tE,tA,fun l=>?_,by rw[<-HG.out,dG.out];exact dA⟩;rw[<-HG.out];exact lC (by rw[List.length_append,Eo]at l;exact l))
      have rA:E9 w7 D (H+i*6) (ub i) (uv i) (W.A2 i):=by
       obtain⟨pC,c',ev,hx⟩:=(Y.out.set HN.out kG.out lG.out).nth d;simp only[Value.slice.injEq,Option.some.injEq,Addr.mk.injEq,and_true,true_and]at ev;obtain⟨rfl,rfl⟩:=ev;exact hx
      obtain⟨m3,dF⟩:=rA.c2;obtain⟨m7,oC⟩:=rA.c5;obtain⟨vJ,rE⟩:∃u,uv i=u:=⟨_,rfl⟩;obtain⟨-,ak,ck,rB,-,-⟩:=rA.dead;rw[rB]at m7;have eA:(i:Int)<(W.sn:Int):=(by omega);have A:(fun w':World=>w'.cell? ⟨w.heap.size,0,none⟩=some (.pointer (some ⟨C,0,none⟩))/\w'.cell? ⟨C,4,none⟩=some (.slice (some ⟨D,H,none⟩) W.sn sc)/\w'.cell? ⟨G,3,none⟩=some (.int .i64 g.A5)/\w'.cell? ⟨wr.heap.size,5,none⟩=some (.slice y b.dn z)) (w7.setCell ⟨D,H+i*6+2,none⟩ (.int .i64 g.A5)):=by
       have t:=AC.put w7 D (H+i*6+2) (.int .i64 g.A5);exact⟨(t.cell (AM s.1) (by omega)).trans s.1,(t.cell (AM s.2.1) (by omega)).trans s.2.1,(t.cell (AM s.2.2.1) (by omega)).trans s.2.2.1,(t.cell (AM s.2.2.2) (by omega)).trans s.2.2.2⟩
      have kA:(fun w':World=>w'.cell? ⟨w.heap.size,0,none⟩=some (.pointer (some ⟨C,0,none⟩))/\w'.cell? ⟨C,4,none⟩=some (.slice (some ⟨D,H,none⟩) W.sn sc)/\w'.cell? ⟨G,3,none⟩=some (.int .i64 g.A5)/\w'.cell? ⟨wr.heap.size,5,none⟩=some (.slice y b.dn z)) ((w7.setCell ⟨D,H+i*6+2,none⟩ (.int .i64 g.A5)).setCell ⟨D,H+i*6+5,none⟩ (.slice na (g.dn+OL.length) nc)):=by
       have t:=AC.put (w7.setCell ⟨D,H+i*6+2,none⟩ (.int .i64 g.A5)) D (H+i*6+5) (.slice na (g.dn+OL.length) nc);exact⟨(t.cell (AM A.1) (by omega)).trans A.1,(t.cell (AM A.2.1) (by omega)).trans A.2.1,(t.cell (AM A.2.2.1) (by omega)).trans A.2.2.1,(t.cell (AM A.2.2.2) (by omega)).trans A.2.2.2⟩
      have gI:=A3 oA;have m8:((w7.setCell ⟨D,H+i*6+2,none⟩ (.int .i64 g.A5))).cell? ⟨D,H+i*6+5,none⟩=some (.slice ak (W.A2 i).dn ck):=(World.cell?_setCell_other _ _ _ _ (by simp)).trans m7;have gF:((w7.setCell ⟨D,H+i*6+2,none⟩ (.int .i64 g.A5))).frozen? ⟨D,H+i*6+5,none⟩=false:=(World.frozen?_setCell _ _ _ _).trans oC;have pD:=A3 A;have rD:=A3 kA;clear tA lC nA vB T dA jC fA rA oA A kA rB rE
      (try go_wp2_with fail)
      refine hK.out _ _ (s) ?_;clear hK K hHeld;intro hHeld
      try simp only[Act.put,s1,s2,s3]
      clear s;refine tk 18 (h:=tk 19 (h:=?_));refine rd [20] (rc (fun K hK=>?_) .nil);go_simp
      (try go_wp2_with fail)
      refine hK.out _ _ (pD.out) ?_;clear hK K hHeld;intro hHeld
      try simp only[Act.put,s1,s2,s3]
      clear m3 dF;refine tk 21 (h:=tk 22 (h:=?_));refine rd [23] (rc (fun K hK=>?_) .nil);go_simp
      (try go_wp2_with fail)
      refine hK.out _ _ (rD.out) ?_;clear hK K hHeld;intro hHeld
      try simp only[Act.put,s1,s2,s3]
      refine wpAnyH_done (by kernel_rfl) ?_ _;clear hHeld m7 oC m8 gF;go_wp2_with fail;go_roundw
      case rel=>
       refine⟨i+1,by omega,by go_num,Or.inr (Or.inr ⟨i,cD,by omega,?_⟩)⟩;have hE:=zGy Y.out HN.out kG.out kI.out lG.out d;rw[<-HG.out]at hE;unfold D2;rw[<-HG.out];exact hE
      case measure=>simp[intOf];omega
     ·have fC:∃y z,wr.cell? ⟨D,H+i*6,none⟩=some (.string (W.A2 i).name)/\wr.cell? ⟨D,H+i*6+1,none⟩=some (.int .i64 (W.A2 i).origin)/\wr.cell? ⟨D,H+i*6+2,none⟩=some (.int .i64 (W.A2 i).A5)/\wr.cell? ⟨D,H+i*6+3,none⟩=some (.int .i64 (W.A2 i).rs)/\wr.cell? ⟨D,H+i*6+4,none⟩=some (.int .i64 (W.A2 i).rb)/\wr.cell? ⟨D,H+i*6+5,none⟩=some (.slice y (W.A2 i).dn z):=by
       have key:∀f,Du wr f (.slice (some ⟨D,H,none⟩) W.sn sc) W.sn W.A2->∃y z,wr.cell? ⟨D,H+i*6,none⟩=some (.string (W.A2 i).name)/\wr.cell? ⟨D,H+i*6+1,none⟩=some (.int .i64 (W.A2 i).origin)/\wr.cell? ⟨D,H+i*6+2,none⟩=some (.int .i64 (W.A2 i).A5)/\wr.cell? ⟨D,H+i*6+3,none⟩=some (.int .i64 (W.A2 i).rs)/\wr.cell? ⟨D,H+i*6+4,none⟩=some (.int .i64 (W.A2 i).rb)/\wr.cell? ⟨D,H+i*6+5,none⟩=some (.slice y (W.A2 i).dn z):=fun f h=>by
        obtain⟨b',cF,nC,I,-,-⟩:=h;obtain⟨pC,c',ev,hs⟩:=I.nth d;simp only[Value.slice.injEq,Option.some.injEq,Addr.mk.injEq,and_true,true_and]at ev;obtain⟨⟨rfl,rfl⟩,rfl⟩:=ev;obtain⟨-,y,z,N,-,-⟩:=id hs.dead;exact⟨y,z,⟨hs.c0.1,hs.c1.1,hs.c2.1,hs.c3.1,hs.c4.1,by have:=hs.c5.1;rw[N]at this;exact this⟩⟩
       rcases v with h | ⟨i0,l,h⟩ | ⟨i0,l,I,h⟩
       ·exact key Q (jG.out.A1 (A8 aB h.1))
       ·obtain⟨_,_,_,Q',_,_,_,_,_,_,h5,_⟩:=h;exact key Q' h5
       ·obtain⟨_,_,_,Q',_,_,_,_,_,_,⟨b',cF,nC,bJ,_,_⟩,_⟩:=h;obtain⟨pC,c',ev,hs⟩:=bJ.nth d;simp only[Value.slice.injEq,Option.some.injEq,Addr.mk.injEq,and_true,true_and]at ev;obtain⟨⟨rfl,rfl⟩,rfl⟩:=ev;rw[show Fs W k i0 i=W.A2 i from if_neg (by omega)]at hs;obtain⟨-,y,z,N,-,-⟩:=id hs.dead;exact⟨y,z,⟨hs.c0.1,hs.c1.1,hs.c2.1,hs.c3.1,hs.c4.1,by have:=hs.c5.1;rw[N]at this;exact this⟩⟩
      have bB:wr.cell? ⟨w.heap.size+1,0,none⟩=some (.int .i64 x):=by
       rcases v with h | ⟨i0,l,h⟩ | ⟨i0,l,I,h⟩
       ·exact(h.1.cell (AM V.out)).trans V.out
       ·obtain⟨_,_,_,_,_,_,_,h2,_⟩:=h;exact h2.2
       ·obtain⟨_,_,_,_,_,_,_,h2,_⟩:=h;exact h2.2
      obtain⟨b,O⟩:∃b,b=W.A2 i:=⟨_,rfl⟩;rw[<-O]at fC hq;obtain⟨y,z,q0,q1,q2,q3,q4,q5⟩:=fC;have M:=A3 O;have HQ:=A3 hq;have gB:=A3 v;have a1:(b.A5 == x)=false:=beq_eq_false_iff_ne.2 hq;have E:=A9 wr (.cells #[.string b.name,.int .i64 b.origin,.int .i64 b.A5,.int .i64 b.rs,.int .i64 b.rb,.slice y b.dn z] 70);have HX:=A3 (Af.new wr (.string b.name) (.int .i64 b.origin) (.int .i64 b.A5) (.int .i64 b.rs) (.int .i64 b.rb) (.slice y b.dn z) 70);have cA:(wr.alloc (.cells #[.string b.name,.int .i64 b.origin,.int .i64 b.A5,.int .i64 b.rs,.int .i64 b.rb,.slice y b.dn z] 70)).cell? ⟨w.heap.size+1,0,none⟩=some (.int .i64 x):=(E.cell (AM bB)).trans bB;obtain⟨y0,y1,y2,y3,y4,y5⟩:=HX.out.c;clear O hq v bB;go_wp2_with fail;clear q0 y0 q1 y1 q2 y2 q3 y3 q4 y4 q5 y5 a1 cA;go_roundw
      case rel=>
       refine⟨i+1,by omega,by go_num,?_⟩
       ·have v:=gB.out;rcases v with⟨h,i0,l,I⟩ | ⟨i0,l,h⟩ | ⟨i0,l,I,h⟩
        ·refine Or.inl ⟨A8 h E,i0,l,?_⟩;have h2:i≠i0:=fun e=>HQ.out (by rw[M.out,e];exact l.2.1)
         omega
        ·exact Or.inr (Or.inl ⟨i0,l,h.A1 E⟩)
        ·exact Or.inr (Or.inr ⟨i0,l,by omega,h.A1 E⟩)
      case measure=>simp[intOf];omega
    ·obtain rfl:i=W.sn:=(by omega);have hfin:∃fT fS pl m,o=⟨{W with pool:=pl,A2:=fT,pn:=W.pn - 1,A0:=del fS k},0,m,0⟩/\(∀j,(fS j).id=(W.A0 j).id)/\SdE w wr C w.heap.size (w.heap.size+1) k bn off cn (.slice (some ⟨D,H,none⟩) W.sn sc) W x pl m fT fS:=by
      rcases v with⟨h,i0,l,I⟩ | ⟨i0,l,h⟩ | ⟨i0,l,I,h⟩
      ·exact absurd l.1 (by omega)
      ·refine⟨_,_,_,_,?_,fun j=>?_,h⟩
       ·rcases HO.out with⟨i1,h2,e⟩ | ⟨i1,h2,e⟩
        ·have ei:i1=i0:=Classical.byContradiction fun cB=>l.2.2.1 i1 h2.1 cB h2.2.1
         rw[e,ei];rfl
        ·exact absurd l.2.1 (h2.2.2.2 i0 l.1)
       ·unfold E7;split
        ·rename_i e;rw[e];rfl
        ·rfl
      ·refine⟨_,_,_,_,?_,fun j=>rfl,h⟩;rcases HO.out with⟨i1,h2,e⟩ | ⟨i1,h2,e⟩
       ·exact absurd l.2.1 (h2.2.2.2 i0 l.1)
       ·have ei:i1=i0:=Classical.byContradiction fun cB=>l.2.2.1 i1 h2.1 cB h2.2.1
        rw[e,ei];rfl
     clear v;obtain⟨fT,fS,pl,m,ho,pE,y0,y1,P',Q',cF,nC,hB,⟨cP,cI⟩,lE,iD,bH,kB,jD,jH,kH,eA⟩:=hfin;have pH:=lE.size;have eH:=(eA bn (Or.inr (Or.inr (Or.inl rfl)))).2;have dH:D8 wr 0 wr.heap.size (.slice (some ⟨bn,off,none⟩) W.pn cn) W.pn fS:=⟨iH,_,_,rfl,eC,fun _=>⟨bn,off,rfl,Nat.zero_le _,eH,fun i hi=>⟨nC i,(kB i hi).cells (fun l=>⟨Nat.zero_le _,(kB i hi).deadLt l⟩)⟩⟩⟩;have fD:=A3 (show ∀w',Below wr.heap.size wr w'->Calls Tryz.prog 52 #[.slice (some ⟨bn,off,none⟩) W.pn cn,.func (.func 53) #[] #[.pointer (some ⟨w.heap.size+1,0,none⟩)]] w' fun e rH=>e = .returned (.slice (some ⟨bn,off,none⟩) (W.pn - 1) cn)/\AC (fun j=>j=bn) w' rH/\∀i,i<W.pn - 1->∀r,r<8->AF rH bn (off+i*8+r) (EB (del fS k) (del nC k) i r)from fun w' hb=>zBT 0 wr.heap.size bn off W.pn cn k (w.heap.size+1) nC fS x w' (fun i hi r hr=>(zDn (kB i hi) r hr).A1 hb) (fun i hi=>by obtain⟨-,a,c,h,-⟩:=(kB i hi).dead;exact⟨a,c,h⟩) (dH.A1 hb) U bD eC (by rw[pE];exact HK.out.2.1) (fun i hi cB=>by
      rw[pE,<-HK.out.2.1];rcases Nat.lt_or_gt_of_ne cB with I | I
      ·exact HI.out.AP.dist k U i I
      ·exact fun e=>HI.out.AP.dist i hi k I e.symm) ((hb.cell (AM cI)).trans cI) (by omega))
     have HB:=A3 hB;have pI:=A3 ho;have oI:=A3 lE;have iI:=A3 iD;have mI:=A3 bH;have aD:=A3 kB;have mG:=A3 jD;have tD:=A3 jH;have oG:=A3 kH;have HL:=A3 eA;have L:Below wr.heap.size wr wr.drew:=(Below.refl _ _).drew;have pG:C≠bn:=(by omega);have jI:=A3 (show(fun w':World=>w'.cell? ⟨w.heap.size,0,none⟩=some (.pointer (some ⟨C,0,none⟩))) wr from cP);clear hB ho lE iD bH kB jD jH kH eA cP cI dH pE;have iJ:∀(fn:Fn) (first cap:Array Value) (w:World),(Instr.makeFunc fn first cap).run Tryz.prog w = .ok (.func fn first cap) w:=fun _ _ _ _=>rfl
     go_upto_region 15 with fail;refine wp_region_held_drew (S:=(fun w':World=>w'.cell? ⟨w.heap.size,0,none⟩=some (.pointer (some ⟨C,0,none⟩)))) (by kernel_rfl) jI.out (fun hHeld=>?_);have mC:wr.drew.heap.size=wr.heap.size:=rfl;have mD:=A3 (HB.out.A1 L);have tC:=A3 hHeld;generalize wr.drew=q0 at hHeld L mC mD tC ⊢;obtain⟨m5,eF⟩:=mD.out.2.2.2.2.2.1;refine tk 0 (h:=tk 1 (h:=tk 2 (h:=tk 3 (h:=tk 4 (h:=tk 6 (h:=?_))))));refine rd [5] (rc (fun K hK=>?_) .nil);go_simp
     (try go_wp2_with fail)
     refine hK.out _ _ (tC.out) ?_;clear hK K hHeld;intro hHeld
     try simp only[Act.put,s1,s2,s3]
     clear m5 eF;refine rd [7] (rc (fun K hK=>?_) .nil);go_simp;go_at_call 52;refine(fD.out q0 L).mono ?_;clear fD;rintro e w9 ⟨rfl,bC,fH⟩;have iL:=bC.size;have kA:(fun w':World=>w'.cell? ⟨w.heap.size,0,none⟩=some (.pointer (some ⟨C,0,none⟩))) w9:=(bC.cell (AM tC.out) (by omega)).trans tC.out;have nI:=A3 bC;have eI:=A3 fH;have iA:=A3 (mD.out.AD bC pG);obtain⟨m5,eF⟩:=iA.out.2.2.2.2.2.1;clear bC fH
     (try go_wp2_with fail)
     refine hK.out _ _ (kA) ?_;clear hK K hHeld;intro hHeld
     try simp only[Act.put,s1,s2,s3]
     have kE:=AC.put w9 C 5 (.slice (some ⟨bn,off,none⟩) (W.pn - 1) cn);have nG:=A3 kE;have iG:=A3 (show(fun w':World=>w'.cell? ⟨w.heap.size,0,none⟩=some (.pointer (some ⟨C,0,none⟩))) (w9.setCell ⟨C,5,none⟩ (.slice (some ⟨bn,off,none⟩) (W.pn - 1) cn))from(kE.cell (AM kA) (by omega)).trans kA);clear kA kE;refine tk 8 (h:=tk 9 (h:=tk 10 (h:=?_)));refine rd [11] (rc (fun K hK=>?_) .nil);go_simp
     (try go_wp2_with fail)
     refine hK.out _ _ (iG.out) ?_;clear hK K hHeld;intro hHeld
     try simp only[Act.put,s1,s2,s3]
     refine wpAnyH_done (by kernel_rfl) ?_ _;clear hHeld m5 eF;go_wp2_with fail;go_end0;have jL:=nG.out.size;have dD:AC (fun j=>j=C\/j=bn) wr (w9.setCell ⟨C,5,none⟩ (.slice (some ⟨bn,off,none⟩) (W.pn - 1) cn)):=((AC.CX L).trans (nI.out.mono (fun j e=>Or.inr e))).trans (nG.out.mono (fun j e=>Or.inl e));have jE:AC (fun j=>C<=j) w (w9.setCell ⟨C,5,none⟩ (.slice (some ⟨bn,off,none⟩) (W.pn - 1) cn)):=oI.out.trans (dD.mono (fun j e=>by omega));have vE:∀j,C<j->j≠bn->¬(j=C\/j=bn):=fun j I h2 e=>by omega
     obtain⟨d1,d2,d3⟩:=zFb (w9:=w9.setCell ⟨C,5,none⟩ (.slice (some ⟨bn,off,none⟩) (W.pn - 1) cn)) iH eC U (fun i hi r hr=>(eI.out i hi r hr).other _ (Or.inl pG)) (fun i hi cB=>⟨(aD.out i hi).dead.AD dD (fun l=>vE _ (HL.out _ (Or.inr (Or.inr (Or.inr ⟨i,hi,cB,l,rfl⟩)))).1 ((aD.out i hi).BY l)),(aD.out i hi).Bo,(aD.out i hi).BY⟩) mG.out;rw[pI.out];refine⟨⟨_,rfl⟩,jE.A1 (B:=C) (by omega) (fun j h=>h),by omega,Or.inl ⟨rfl,_,_,_,_,⟨iA.out.1.other _ (Or.inr (by decide)),iA.out.2.1.other _ (Or.inr (by decide)),iA.out.2.2.1.other _ (Or.inr (by decide)),iA.out.2.2.2.1.other _ (Or.inr (by decide)),iA.out.2.2.2.2.1.other _ (Or.inr (by decide)),iA.out.2.2.2.2.2.1.set _,iA.out.2.2.2.2.2.2.1.other _ (Or.inr (by decide)),iA.out.2.2.2.2.2.2.2.1.other _ (Or.inr (by decide)),iA.out.2.2.2.2.2.2.2.2.other _ (Or.inr (by decide))⟩,P',Q',SdR bn cF k W.pn fS,⟨iI.out.AD dD (fun j Z=>vE j (HL.out j (Or.inl Z)).1 (fun e=>(tD.out j Z).2 (Or.inl e))),mI.out.AD dD (fun j Z=>vE j (HL.out j (Or.inr (Or.inl Z))).1 (fun e=>oG.out j Z (Or.inl e))),⟨bn,_,_,d1,d2,d3⟩,fun j Z=>(tD.out j Z).1,fun j Z=>(tD.out j Z).2,oG.out⟩,fun j Z=>?_⟩⟩;have:=HL.out j Z;omega
theorem zD8(p:Nat->Addr)(C k h:Nat)(z0 z1 z2 g:Value)(W:A4)(x:Int)(o:BQ)(w:World)(l:Cf W)(s:F2 (AB W (W.A0 k).A5).time)(t:(Lit.int .i64 (W.A0 k).A5).wf=true)(c:(Lit.int .i64 x).wf=true)(n:BB W x k)(d:(W.A0 k).dn<=1048576)(m:(∃i,EO W x i/\o=⟨Gj W k i,0,((Cz W k i).length:Int),0⟩)\/∃i,EP W x i/\o=⟨Gk W k i,0,((D2 W k i).length:Int),0⟩)
 (a:∀i,i<W.pn->C1 (W.A0 i).dn (W.A0 i).ds (W.A0 i).db/\CK W.pool (BE (W.A0 i).ds (W.A0 i).db (AB W (W.A0 k).A5).time (W.A0 i).dn)) (b:∀i,i<W.sn->C1 (W.A2 i).dn (W.A2 i).ds (W.A2 i).db/\CK W.pool (BE (W.A2 i).ds (W.A2 i).db (AB W (W.A0 k).A5).time (W.A2 i).dn)) (f:C<w.heap.size) (y:w.cell? ⟨h,0,none⟩=some (.int .i64 x))
 (q:DW w (C+1) w.heap.size z0 z1 z2 g W) (j:BR w C z0 z1 (.int .i64 W.time) (.int .i64 W.next) z2 g (.int .i64 0) (.int .i64 0) .nilIface) :
 Calls Tryz.prog 17 #[.pointer (some ⟨C,0,none⟩),.pointer (some ⟨h,0,none⟩)] w (Mm p o C w):=by
 have H:=A3 (zC8 p C k z0 z1 z2 g W x o w l s t c n d m a b f q j);clear q j l s t c n m a b;go_enter Tryz.func17,Tryz.ntmps17;go_wp2_with fail;refine H.out.mono ?_;rintro e w' ⟨⟨v,rfl⟩,r⟩;have u:=A3 r;clear r;go_wp2_with fail;go_end0;exact⟨⟨_,rfl⟩,u.out⟩
theorem zDC(p:Nat->Addr)(i v1 j l:Value)(lo hi:Nat)(W:A4)(a:Int)(w:World)(A:Do w p)(h:BM w lo hi i v1 j l W)(c:F6 W)(u:As W.pool<=1048576)(v:W.sn<=1048576)(x:W.pn<=1048576)(y:JQ W)(b:(Lit.int .i64 a).wf=true) :
 Calls Tryz.prog 5 #[Bh i v1 j l W,.int .i64 a] w (zCy W a w):=by
 by_cases hs:BG W a/\D4 W a=1
 ·obtain⟨k,f⟩:=hs.1.no;obtain⟨o,B⟩:=zIB k hs.2;refine(Yh p i v1 j l lo hi W a o w A h c u v x y b ?_).mono ?_
  ·intro t C w' z0 z1 z2 H G _ n _ _ s g I E z;have D:=(FA W).1 n;have F:=c k (by have:=f.1;unfold memN;omega);rw[B9 f.1]at F;have q:=zFX D (AB W (W.A0 k).A5).time;exact zD8 p C k t z0 z1 z2 H W a o w' n (zAg D.AP _) F b f (by have:=(q.1 k f.1).1.1;omega) B q.1 q.2 g G E z
  ·rintro e w' ⟨r,d,m⟩;exact⟨r,_,d,fun _=>⟨k,f,B⟩,m⟩
 ·refine(Yh p i v1 j l lo hi W a (BL 0) w A h c u v x y b ?_).mono ?_
  ·intro t C w' z0 z1 z2 H G _ n _ _ s g I E z;exact absurd ⟨s 0 (by omega),s 1 (by omega)⟩ hs
  ·rintro e w' ⟨r,d,m⟩;exact⟨r,_,d,fun e=>absurd ⟨(e▸d).all 0 (by omega),(e▸d).all 1 (by omega)⟩ hs,m⟩
open Go.Maps
theorem zCr(p v1 q r:Value)(lo hi:Nat)(W:A4)(x:Int)(w:World)(h:BM w lo hi p v1 q r W)(P:F6 W)(hN:JQ W)(hx:(Lit.int .i64 x).wf=true):Calls Tryz.prog 11 #[Bh p v1 q r W,.int .i64 x] w (T5 (GY W x) w):=by
 have Hp:=A3 h;have HN:=A3 hN;have aB:=A3 P;have s:=A3 (JY hx);clear h hN P hx;have N:∀F D:World,F=w.alloc (.cells #[p,v1,.int .i64 W.time,.int .i64 W.next,q,r] 30)->D=F.alloc (.cells #[.int .i64 0,.string ⟨#[]⟩,.string ⟨#[]⟩,.int .i64 0,.int .i64 0,.int .i64 0,.int .i64 0,.slice none 0 0] 43)->Af D w.heap.size p v1 (.int .i64 W.time) (.int .i64 W.next) q r/\EH D (w.heap.size+1) (.int .i64 0) (.string ⟨#[]⟩) (.string ⟨#[]⟩) (.int .i64 0) (.int .i64 0) (.int .i64 0) (.int .i64 0) (.slice none 0 0)/\Below w.heap.size w D/\D.heap.size=w.heap.size+1+1:=by
  rintro F D ea eb;have ha:=A9 w (.cells #[p,v1,.int .i64 W.time,.int .i64 W.next,q,r] 30);have h1:=Af.new w p v1 (.int .i64 W.time) (.int .i64 W.next) q r 30;have z1:F.heap.size=w.heap.size+1:=(by rw[ea];exact World.size_alloc _ _);rw[<-ea]at ha h1;have hb:=A9 F (.cells #[.int .i64 0,.string ⟨#[]⟩,.string ⟨#[]⟩,.int .i64 0,.int .i64 0,.int .i64 0,.int .i64 0,.slice none 0 0] 43);have h2:=EH.new F (.int .i64 0) (.string ⟨#[]⟩) (.string ⟨#[]⟩) (.int .i64 0) (.int .i64 0) (.int .i64 0) (.int .i64 0) (.slice none 0 0) 43;have z2:D.heap.size=w.heap.size+1+1:=(by rw[eb,World.size_alloc,z1]);rw[<-eb,z1]at h2;rw[<-eb]at hb;exact⟨h1.A1 hb,h2,A8 ha hb,z2⟩
 obtain⟨hX,hY,o,O⟩:=N _ _ rfl rfl;have HX:=A3 hX;have HY:=A3 hY;have HS:=A3 O;obtain⟨x0,x1,x2,x3,x4,x5⟩:=HX.out.c;clear N hX hY O;go_enter Tryz.func11,Tryz.ntmps11;go_wp2_with fail;generalize (w.alloc (.cells #[p,v1,.int .i64 W.time,.int .i64 W.next,q,r] 30)).alloc (.cells #[.int .i64 0,.string ⟨#[]⟩,.string ⟨#[]⟩,.int .i64 0,.int .i64 0,.int .i64 0,.int .i64 0,.slice none 0 0] 43)=W0 at HX HY HS o x0 x1 x2 x3 x4 x5 ⊢;refine(MO p v1 q r lo hi W W0 (Hp.out.A1 o) aB.out).mono ?_;rintro e w1 ⟨⟨t,rfl,ht⟩,f⟩;have Ht:=A3 (ht.trans (FA W));have m:=A8 o f;have z:=A3 (HX.out.A1 f);have l:=A3 (HY.out.A1 f);have y:=A3 (show w.heap.size+1+1<=w1.heap.size by have:=HS.out;have:=f.size;omega);clear x0 x1 x2 x3 x4 x5 f o HX HY HS ht;cases t
 ·have HA:=A3 (show GY W x=CQ from zk (fun h=>absurd (Ht.out.2 h) (by simp)));obtain⟨⟨y0,iB⟩,⟨y1,jB⟩,⟨y2,kB⟩,⟨y3,lB⟩,⟨y4,mB⟩,⟨y5,nB⟩,⟨y6,oB⟩,⟨y7,pB⟩⟩:=l.out;go_wp2;have b:=l.out.put (.int .i64 0) (.string ⟨#[]⟩) (.string ⟨#[]⟩) (.int .i64 0) (.int .i64 0) (.int .i64 0) (.int .i64 0) (.slice none 0 0);refine bodyPost_ret (v:=.agg #[.int .i64 0,.string ⟨#[]⟩,.string ⟨#[]⟩,.int .i64 0,.int .i64 0,.int .i64 0,.int .i64 0,.slice none 0 0]) (by simp[results,Tryz.results11,go_sem,b.1.1,b.2.1.1,b.2.2.1.1,b.2.2.2.1.1,b.2.2.2.2.1.1,b.2.2.2.2.2.1.1,b.2.2.2.2.2.2.1.1,b.2.2.2.2.2.2.2.1]) rfl ?_;rw[HA.out];exact zBo ((m.trans ((AC.putR8 w1 (w.heap.size+1) (.int .i64 0) (.string ⟨#[]⟩) (.string ⟨#[]⟩) (.int .i64 0) (.int .i64 0) (.int .i64 0) (.int .i64 0) (.slice none 0 0)).A1 (B:=w.heap.size) (by have:=y.out;omega) (fun k e=>by omega))))
 ·have HW:=A3 (Ht.out.1 rfl);have HA:=A3 (show GY W x=AB W x from YC HW.out);have HD:=A3 (show(AB W x).dn<=1048576 from zAf HN.out x);obtain⟨x0,x1,x2,x3,x4,x5⟩:=z.out.c;go_wp2_with fail;refine(Ot p v1 q r lo hi W w1 (Hp.out.A1 m) HW.out.AP.2.2.2.1 ((FA W).2 HW.out).AP.idsWf).mono ?_;rintro e E ⟨vd,rfl,hm,hd,d⟩;obtain⟨a,c,M,hp⟩:=OW ((FA W).2 HW.out).AP.dist hd x;have C:=A3 M;have HP:=A3 (hp.A1 d);have HM:=A3 hm;have L:=A8 m d;have sA:=A3 (z.out.A1 d);have I:=A3 (l.out.A1 d);have i:=A3 (show w.heap.size+1+1<=E.heap.size by have:=y.out;have:=d.size;omega);clear M hp hm hd x0 x1 x2 x3 x4 x5 d m z l y;unfold BX at C;generalize AB W x=S at *;have n:=A9 E (.cells #[.int .i64 S.id,.string S.name,.string S.set,.int .i64 S.A5,.int .i64 S.time,.int .i64 S.rs,.int .i64 S.rb,.slice a S.dn c] 43);have hZ:=EH.new E (.int .i64 S.id) (.string S.name) (.string S.set) (.int .i64 S.A5) (.int .i64 S.time) (.int .i64 S.rs) (.int .i64 S.rb) (.slice a S.dn c) 43;have K:=A3 hZ;have u:=A3 (A8 L n);have A:=A3 (I.out.A1 n);have H:=A3 (HP.out.A1 n);have j:=A3 (show(E.alloc (.cells #[.int .i64 S.id,.string S.name,.string S.set,.int .i64 S.A5,.int .i64 S.time,.int .i64 S.rs,.int .i64 S.rb,.slice a S.dn c] 43)).heap.size=E.heap.size+1 from World.size_alloc _ _);clear n hZ;obtain⟨⟨z0,Q⟩,⟨z1,R⟩,⟨z2,U⟩,⟨z3,X⟩,⟨z4,Y⟩,⟨z5,Z⟩,⟨z6,aA⟩,⟨z7,bA⟩⟩:=K.out;go_wp2_with (first
   | (at_lookup;refine Rc _ rfl _ _ 76 rfl 2 43 J3 JM (M3 _) (w1.heap.size+1) W.pn _ rfl HM.out _ _ rfl s.out _ C.out ?_)
   | fail)
  clear z0 Q z1 R z2 U z3 X z4 Y z5 Z z6 aA z7 bA;generalize E.alloc (.cells #[.int .i64 S.id,.string S.name,.string S.set,.int .i64 S.A5,.int .i64 S.time,.int .i64 S.rs,.int .i64 S.rb,.slice a S.dn c] 43)=W3 at K u A H j ⊢;clear I sA HP HM C s L;generalize E.heap.size=V at K i j ⊢;have hV:V≠w.heap.size+1:=(by have:=i.out;omega);have iD:w.heap.size+1≠V:=(by have:=i.out;omega);refine(YP _ S.dn lo hi S.ds S.db W3 H.out HD.out).mono ?_;rintro e w4 ⟨⟨v',kb,rfl,ho,hk⟩,g⟩;obtain⟨-,G,c',rfl,-⟩:=id ho;have HO:=A3 ho;have HK:=A3 hk;have oA:=A3 (A8 u.out g);have vA:=A3 (K.out.A1 g);have J:=A3 (A.out.A1 g);have rA:=A3 (show V+1<=w4.heap.size by have:=g.size;have:=j.out;omega);clear ho hk g u K A;obtain⟨⟨z0,Q⟩,⟨z1,R⟩,⟨z2,U⟩,⟨z3,X⟩,⟨z4,Y⟩,⟨z5,Z⟩,⟨z6,aA⟩,⟨z7,bA⟩⟩:=vA.out;obtain⟨⟨y0,iB⟩,⟨y1,jB⟩,⟨y2,kB⟩,⟨y3,lB⟩,⟨y4,mB⟩,⟨y5,nB⟩,⟨y6,oB⟩,⟨y7,pB⟩⟩:=J.out;go_wp2;have jD:=i.out;have kD:=j.out;have lD:=rA.out;have T1:=AC.put w4 V 7 (.slice G S.dn c');have b:=(J.out.AD T1 (fun e=>absurd e (by omega))).put (.int .i64 S.id) (.string S.name) (.string S.set) (.int .i64 S.A5) (.int .i64 S.time) (.int .i64 S.rs) (.int .i64 S.rb) (.slice G S.dn c');have T2:=AC.putR8 (w4.setCell ⟨V,7,none⟩ (.slice G S.dn c')) (w.heap.size+1) (.int .i64 S.id) (.string S.name) (.string S.set) (.int .i64 S.A5) (.int .i64 S.time) (.int .i64 S.rs) (.int .i64 S.rb) (.slice G S.dn c');have TT:=(T1.mono (T:=fun k=>k=w.heap.size+1\/k=V) (fun k e=>Or.inr e)).trans (T2.mono (fun k e=>Or.inl e));refine bodyPost_ret (v:=.agg #[.int .i64 S.id,.string S.name,.string S.set,.int .i64 S.A5,.int .i64 S.time,.int .i64 S.rs,.int .i64 S.rb,.slice G S.dn c']) (by simp[results,Tryz.results11,go_sem,b.1.1,b.2.1.1,b.2.2.1.1,b.2.2.2.1.1,b.2.2.2.2.1.1,b.2.2.2.2.2.1.1,b.2.2.2.2.2.2.1.1,b.2.2.2.2.2.2.2.1]) rfl ?_;rw[HA.out];refine⟨.slice G S.dn c',kb,rfl,HO.out.AD TT (fun h0 e=>by have h1:=HK.out h0;omega),fun h0=>?_,oA.out.trans (TT.A1 (B:=w.heap.size) (by omega) (fun k e=>by omega))⟩;have h1:=HK.out h0;simp only[World.size_setCell];omega
def lwD(p:A7)(xs xb:Int)(k:Nat):ByteArray:=if Nil (EL p xs xb k) (Ei p xs xb k)then⟨#[]⟩else(p.s (EL p xs xb k).toNat).data
theorem QJ{p:A7}{xs xb:Int}(h:Nil xs xb):lwD p xs xb k=⟨#[]⟩:=by
 have hn:Nil (DK p xs xb k) (Dc p xs xb k):=⟨if_pos h,if_pos h⟩;exact if_pos ⟨if_pos hn,if_pos hn⟩
theorem QI{p:A7}{xs xb:Int}(hn:Nil (DK p xs xb k) (Dc p xs xb k)):lwD p xs xb k=⟨#[]⟩:=if_pos ⟨if_pos hn,if_pos hn⟩
end Go.Proofs.YtnfjcaoclahfjaaGreatDoor
