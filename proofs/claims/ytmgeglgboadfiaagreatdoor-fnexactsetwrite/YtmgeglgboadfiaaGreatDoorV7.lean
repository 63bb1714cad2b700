/- A part of the proof. -/
import Derived.Test.YtmgeglgboadfiaaGreatDoorV6
import Derived.Test.YtmgeglgboadfiaaGreatDoorV5
import Derived.Stop.IfaceNil
import Derived.Deep.RegionLawGrows
set_option linter.unusedVariables false
set_option maxRecDepth 20000
set_option maxHeartbeats 4000000
namespace Go.Proofs.YtmgeglgboadfiaaGreatDoor
open Go.RowKit Go.Maps
theorem zDH(a:Option Addr)(n c:Nat)(xs:List Value)(w:World)(hl:xs.length=n*6)(fA:∀u∈xs,u.oneCell'=true)(hn:n<=1048576)
    (hc:0<n->∃b off,a=some ⟨b,off,none⟩/\∀j u,xs[j]?=some u->w.cell? ⟨b,off+j,none⟩=some u) :
    Calls Tryz.prog 169 #[.slice a n c] w fun e w'=>∃v',e = .returned v'/\w'.ownsRow w.heap.size 67 6 v' n xs/\Below w.heap.size w w'/\(n=0->∃a,v' = .slice a 0 0):=by
  have Hc:Hid (0<n->∃b off,a=some ⟨b,off,none⟩/\∀j u,xs[j]?=some u->w.cell? ⟨b,off+j,none⟩=some u):=hc;have Hl:Hid (xs.length=n*6/\∀u∈xs,u.oneCell'=true):=⟨hl,fA⟩;clear hc hl fA;have pA:=fun w=>Lib.run_eql_slice_nil (P:=Tryz.prog) w 34 67 a n c 0 0 (by kernel_rfl)
  cases a with
  | none=>
    have oA:n=0:=by
      by_cases h:0<n
      · obtain⟨b,off,ha,_⟩:=Hc.out h;simp at ha
      · omega
    subst oA;have nA:xs = []:=List.eq_nil_of_length_eq_zero (by simpa using Hl.out.1);subst nA;go_enter Tryz.func169,Tryz.ntmps169;go_wp2;go_ret;exact⟨_,rfl,World.ownsRow_nil _ _ _ _,Below.refl _ _,fun _=>⟨_,rfl⟩⟩
  | some ad=>
    obtain⟨i0,hi,lA⟩:=Option.map_eq_some_iff.1 zIL;simp only[Prod.mk.injEq]at lA;obtain⟨hz,hs,kA⟩:=lA;have HI:Hid (Tryz.prog.info? 67=some i0/\i0.zero=some (.agg #[.string ⟨#[]⟩,.int .i64 0,.int .i64 0,.int .i64 0,.int .i64 0,.slice none 0 0])/\i0.size=6/\i0.bytes=72):=⟨hi,hz,hs,kA⟩;have dA:Hid ((w.alloc (.cells #[] 67)).ownsRow w.heap.size 67 6 (.slice (some ⟨w.heap.size,0,none⟩) 0 0) 0 []):=World.ownsRow_made w #[] 0 (Nat.le_refl _) (Nat.zero_le _) (by simp);clear hi hz hs kA;go_enter Tryz.func169,Tryz.ntmps169;go_wp2_with (first
      | (at_builtin;refine qJ rfl _ _ 34 rfl w.heap.size 67 i0 (.agg #[.string ⟨#[]⟩,.int .i64 0,.int .i64 0,.int .i64 0,.int .i64 0,.slice none 0 0]) 6 72 (by kernel_rfl) HI.out.1 HI.out.2.1 HI.out.2.2.1 HI.out.2.2.2 rfl (by decide) _ _ _ rfl dA.out (some ad) n c xs rfl Hl.out.1 Hl.out.2 ?c1 ?c3 ?c4 ?c5 ?_))
    case c1=>
      intro h0;obtain⟨b,off,ha,eA⟩:=Hc.out h0;exact⟨b,off,ha,fun j u hj=>(((Below.refl _ _).alloc (Nat.le_refl _) _).cell (zD (eA j u hj))).trans (eA j u hj)⟩
    case c3=>unfold maxLen;omega
    case c4=>omega
    case c5=>simp
    intro v' w1 bA cA iA;have mA:Below w.heap.size w w1:=((Below.refl _ _).alloc (Nat.le_refl _) _).grown cA (by simp) (fun q hq=>by have:=dA.out.lt q hq;omega);have aA:w1.ownsRow w.heap.size 67 6 v' n xs:=(by simpa using bA);have gA:Hid (w1.ownsRow w.heap.size 67 6 v' n xs):=aA;have jA:Hid (n=0->v' = .slice (some ⟨w.heap.size,0,none⟩) 0 0):=iA;clear bA aA cA iA;go_wp2;go_ret;exact⟨v',rfl,gA.out,mA,fun e=>⟨_,jA.out e⟩⟩
theorem zBV(a:Option Addr)(n c:Nat)(xs:List Value)(w:World)(hl:xs.length=n*8)(fA:∀u∈xs,u.oneCell'=true)(hn:n<=1048576)
    (hc:0<n->∃b off,a=some ⟨b,off,none⟩/\∀j u,xs[j]?=some u->w.cell? ⟨b,off+j,none⟩=some u) :
    Calls Tryz.prog 170 #[.slice a n c] w fun e w'=>∃v',e = .returned v'/\w'.ownsRow w.heap.size 99 8 v' n xs/\Below w.heap.size w w'/\(n=0->∃a,v' = .slice a 0 0):=by
  have Hc:Hid (0<n->∃b off,a=some ⟨b,off,none⟩/\∀j u,xs[j]?=some u->w.cell? ⟨b,off+j,none⟩=some u):=hc;have Hl:Hid (xs.length=n*8/\∀u∈xs,u.oneCell'=true):=⟨hl,fA⟩;clear hc hl fA;have pA:=fun w=>Lib.run_eql_slice_nil (P:=Tryz.prog) w 35 99 a n c 0 0 (by kernel_rfl)
  cases a with
  | none=>
    have oA:n=0:=by
      by_cases h:0<n
      · obtain⟨b,off,ha,_⟩:=Hc.out h;simp at ha
      · omega
    subst oA;have nA:xs = []:=List.eq_nil_of_length_eq_zero (by simpa using Hl.out.1);subst nA;go_enter Tryz.func170,Tryz.ntmps170;go_wp2;go_ret;exact⟨_,rfl,World.ownsRow_nil _ _ _ _,Below.refl _ _,fun _=>⟨_,rfl⟩⟩
  | some ad=>
    obtain⟨i0,hi,lA⟩:=Option.map_eq_some_iff.1 zGm;simp only[Prod.mk.injEq]at lA;obtain⟨hz,hs,kA⟩:=lA;have HI:Hid (Tryz.prog.info? 99=some i0/\i0.zero=some (.agg #[.int .i64 0,.string ⟨#[]⟩,.string ⟨#[]⟩,.int .i64 0,.int .i64 0,.int .i64 0,.int .i64 0,.slice none 0 0])/\i0.size=8/\i0.bytes=96):=⟨hi,hz,hs,kA⟩;have dA:Hid ((w.alloc (.cells #[] 99)).ownsRow w.heap.size 99 8 (.slice (some ⟨w.heap.size,0,none⟩) 0 0) 0 []):=World.ownsRow_made w #[] 0 (Nat.le_refl _) (Nat.zero_le _) (by simp);clear hi hz hs kA;go_enter Tryz.func170,Tryz.ntmps170;go_wp2_with (first
      | (at_builtin;refine qJ rfl _ _ 35 rfl w.heap.size 99 i0 (.agg #[.int .i64 0,.string ⟨#[]⟩,.string ⟨#[]⟩,.int .i64 0,.int .i64 0,.int .i64 0,.int .i64 0,.slice none 0 0]) 8 96 (by kernel_rfl) HI.out.1 HI.out.2.1 HI.out.2.2.1 HI.out.2.2.2 rfl (by decide) _ _ _ rfl dA.out (some ad) n c xs rfl Hl.out.1 Hl.out.2 ?c1 ?c3 ?c4 ?c5 ?_))
    case c1=>
      intro h0;obtain⟨b,off,ha,eA⟩:=Hc.out h0;exact⟨b,off,ha,fun j u hj=>(((Below.refl _ _).alloc (Nat.le_refl _) _).cell (zD (eA j u hj))).trans (eA j u hj)⟩
    case c3=>unfold maxLen;omega
    case c4=>omega
    case c5=>simp
    intro v' w1 bA cA iA;have mA:Below w.heap.size w w1:=((Below.refl _ _).alloc (Nat.le_refl _) _).grown cA (by simp) (fun q hq=>by have:=dA.out.lt q hq;omega);have aA:w1.ownsRow w.heap.size 99 8 v' n xs:=(by simpa using bA);have gA:Hid (w1.ownsRow w.heap.size 99 8 v' n xs):=aA;have jA:Hid (n=0->v' = .slice (some ⟨w.heap.size,0,none⟩) 0 0):=iA;clear bA aA cA iA;go_wp2;go_ret;exact⟨v',rfl,gA.out,mA,fun e=>⟨_,jA.out e⟩⟩
theorem zHJ(v0 v1 v2 v3:Value)(lo hi:Nat)(W:zH)(w:World)(h:zk w lo hi v0 v1 v2 v3 W)(bG:qC W.zRd<=1048576)(eG:W.sn<=1048576)(rD:W.pn<=1048576)(sE:zDj W):Calls Tryz.prog 106 #[zz v0 v1 v2 v3 W] w (zJx W w):=by
  obtain⟨a0,c0,a1,c1,a2,c2,a3,c3,rfl,rfl,rfl,rfl⟩:=h.form;have Hp:=zT h;obtain⟨dB,aF,rH⟩:=h.zRg.values;obtain⟨sA,jE,nH⟩:=h.zRe.values;have iB:=zT aF;have nB:=zT jE;have vD:=zT (show ∀i,i<W.sn->(dB i).oneCell'=true from fun i hi=>by obtain⟨-,a,c,e,-⟩:=(aF i hi).1;rw[e];rfl);have jD:=zT (show ∀i,i<W.pn->(sA i).oneCell'=true from fun i hi=>by obtain⟨-,a,c,e,-⟩:=(jE i hi).1;rw[e];rfl);have nD:=zT rH;have pC:=zT nH;have iE:=zT sE.1;have cG:=zT sE.2;have pG:=zT (show W.sn<=maxLen/\W.pn<=maxLen from⟨h.zRg.1,h.zRe.1⟩);clear h aF jE rH nH sE;have rG:∀A B:World,A=w.alloc (.cells #[.slice a0 W.zRd.n c0,.slice a1 W.zRd.hn c1,.int .i64 W.time,.int .i64 W.next,.slice a2 W.sn c2,.slice a3 W.pn c3] 37)->B=A.alloc (.cells #[.slice none 0 0,.slice none 0 0,.int .i64 0,.int .i64 0,.slice none 0 0,.slice none 0 0] 37)->zi B w.heap.size (.slice a0 W.zRd.n c0) (.slice a1 W.zRd.hn c1) (.int .i64 W.time) (.int .i64 W.next) (.slice a2 W.sn c2) (.slice a3 W.pn c3)/\zi B (w.heap.size+1) (.slice none 0 0) (.slice none 0 0) (.int .i64 0) (.int .i64 0) (.slice none 0 0) (.slice none 0 0)/\Below w.heap.size w B/\B.heap.size=w.heap.size+2:=by
    rintro A B ea eb;have b1:=zC w (.cells #[.slice a0 W.zRd.n c0,.slice a1 W.zRd.hn c1,.int .i64 W.time,.int .i64 W.next,.slice a2 W.sn c2,.slice a3 W.pn c3] 37);have x1:=zi.zRZ w (.slice a0 W.zRd.n c0) (.slice a1 W.zRd.hn c1) (.int .i64 W.time) (.int .i64 W.next) (.slice a2 W.sn c2) (.slice a3 W.pn c3) 37;have z1:A.heap.size=w.heap.size+1:=(by rw[ea];exact World.size_alloc _ _);rw[<-ea]at b1 x1;have b2:=zC A (.cells #[.slice none 0 0,.slice none 0 0,.int .i64 0,.int .i64 0,.slice none 0 0,.slice none 0 0] 37);have x2:=zi.zRZ A (.slice none 0 0) (.slice none 0 0) (.int .i64 0) (.int .i64 0) (.slice none 0 0) (.slice none 0 0) 37;have z2:B.heap.size=w.heap.size+2:=(by rw[eb,World.size_alloc,z1]);rw[<-eb,z1]at x2;rw[<-eb]at b2;exact⟨x1.zRX b2,x2,zA b1 b2,z2⟩
  obtain⟨hx,hr,kA,sD⟩:=rG _ _ rfl rfl;have HX:=zT hx;have HR:=zT hr;have dI:=zT sD;clear rG hx hr sD;go_enter Tryz.func106,Tryz.ntmps106;go_upto_region 1 with fail;generalize (w.alloc (.cells #[.slice a0 W.zRd.n c0,.slice a1 W.zRd.hn c1,.int .i64 W.time,.int .i64 W.next,.slice a2 W.sn c2,.slice a3 W.pn c3] 37)).alloc (.cells #[.slice none 0 0,.slice none 0 0,.int .i64 0,.int .i64 0,.slice none 0 0,.slice none 0 0] 37)=W0 at HX HR dI kA ⊢
  go_cut [3] (fun v wc=>∃(X:Nat) (b0:Option Addr) (d0:Nat) (b1:Option Addr) (d1:Nat) (aS:Option Addr) (cS:Nat) (aZ:Option Addr) (cZ:Nat) (l h bS bZ:Nat),v = .pointer (some ⟨X,0,none⟩)/\zi wc X (.slice b0 W.zRd.n d0) (.slice b1 W.zRd.hn d1) (.int .i64 W.time) (.int .i64 W.next) (.slice aS W.sn cS) (.slice aZ W.pn cZ)/\zy wc l h (.slice b0 W.zRd.n d0) (.slice b1 W.zRd.hn d1) W.zRd/\(0<W.sn->aS=some ⟨bS,0,none⟩/\h<=bS)/\(0<W.pn->aZ=some ⟨bZ,0,none⟩/\h<=bZ/\(0<W.sn->bS<bZ))/\W.sn<=cS/\W.pn<=cZ/\yD wc bS wc.heap.size W.sn 0 W.zRg (fun _=>0) dB dB/\qb wc bZ wc.heap.size W.pn 0 W.zRe (fun _=>0) sA sA/\(X<l\/h<=X)/\(0<W.sn->X≠bS)/\(0<W.pn->X≠bZ)/\W0.heap.size<=X/\W0.heap.size<=l/\l<=h/\X<wc.heap.size/\h<=wc.heap.size/\yg wc 67 6 (.slice aS W.sn cS) W.sn/\yg wc 99 8 (.slice aZ W.pn cZ) W.pn/\Below W0.heap.size W0 wc)
  case first=>
    obtain⟨⟨x0,-⟩,⟨x1,-⟩,⟨x2,-⟩,⟨x3,-⟩,⟨x4,-⟩,⟨x5,-⟩⟩:=HX.out;refine wp_region_held_drew (S:=(fun w'=>w'.cell? ⟨w.heap.size,0,none⟩=some (.slice a0 W.zRd.n c0)/\w'.cell? ⟨w.heap.size,1,none⟩=some (.slice a1 W.zRd.hn c1)/\w'.cell? ⟨w.heap.size,2,none⟩=some (.int .i64 W.time)/\w'.cell? ⟨w.heap.size,3,none⟩=some (.int .i64 W.next)/\w'.cell? ⟨w.heap.size,4,none⟩=some (.slice a2 W.sn c2)/\w'.cell? ⟨w.heap.size,5,none⟩=some (.slice a3 W.pn c3))) (by kernel_rfl) ?_ (fun hHeld=>?_)
    · (try dsimp only)
      go_keep
    have dC:Below W0.heap.size W0 W0.drew:=(Below.refl _ _).drew;clear x0 x1 x2 x3 x4 x5;generalize W0.drew=q0 at dC hHeld ⊢;refine tk 0 (h:=tk 1 (h:=tk 3 (h:=tk 4 (h:=tk 5 (h:=tk 6 (h:=tk 7 (h:=tk 8 (h:=tk 10 (h:=tk 11 (h:=?_))))))))));refine rd [2,14] (rc (fun K hK=>?_) (rc (fun K hK=>?_) .nil))
    · go_simp
      go_at_call 168;refine(zB3 _ _ lo hi W.zRd _ ((Hp.out.zRd.zRX kA).zRX dC) bG).mono ?_;rintro e q1 ⟨u0,u1,rfl,nE,cE⟩;obtain⟨b0,d0,b1,d1,rfl,rfl⟩:=nE.form;have zP:W0.heap.size<=q0.heap.size/\q0.heap.size<=q1.heap.size:=⟨dC.size,cE.size⟩;have lC:Below W0.heap.size W0 q1:=zA dC cE;have y1:=cE.size;obtain⟨⟨x0,-⟩,⟨x1,-⟩,⟨x2,-⟩,⟨x3,-⟩,⟨x4,-⟩,⟨x5,-⟩⟩:=HX.out.zRX lC
      (try go_wp2_with fail)
      refine hK.out _ _ (by(try dsimp only);go_keep) ?_;clear hK K hHeld;intro hHeld
      try simp only[Act.put,s1,s2,s3]
      clear x0 x1 x2 x3 x4 x5;refine rd [9,14] (rc (fun K hK=>?_) (rc (fun K hK=>?_) .nil))
      · go_simp
        go_at_call 169;refine(zDH a2 W.sn c2 (zC8 W.zRg dB W.sn) _ (zDb _ _ _) (zEw _ _ _ vD.out) eG (fun h0=>?_)).mono ?_
        · obtain⟨b,off,ha,hc⟩:=nD.out h0
          exact⟨b,off,ha,fun j u hj=>((zA kA lC).cell (zD (hc j u hj))).trans (hc j u hj)⟩
        rintro e q2 ⟨v2,rfl,oG,mD,rF⟩;have cB:Below W0.heap.size W0 q2:=zA lC mD;obtain⟨bS,eA,fA,rfl,nS,lS,kH⟩:=zB4 oG q2.heap.size (Nat.le_refl _);have zS:q1.heap.size<=q2.heap.size:=mD.size;have vH:=qq oG rF;have jH:=nE.zRX mD;have y2:=mD.size;obtain⟨⟨x0,-⟩,⟨x1,-⟩,⟨x2,-⟩,⟨x3,-⟩,⟨x4,-⟩,⟨x5,-⟩⟩:=HX.out.zRX cB
        (try go_wp2_with fail)
        refine hK.out _ _ (by(try dsimp only);go_keep) ?_;clear hK K hHeld;intro hHeld
        try simp only[Act.put,s1,s2,s3]
        clear x0 x1 x2 x3 x4 x5;refine rd [12,14] (rc (fun K hK=>?_) (rc (fun K hK=>?_) .nil))
        · go_simp
          go_at_call 170;refine(zBV a3 W.pn c3 (zBC W.zRe sA W.pn) _ (zBl _ _ _) (zCm _ _ _ jD.out) rD (fun h0=>?_)).mono ?_
          · obtain⟨b,off,ha,hc⟩:=pC.out h0
            exact⟨b,off,ha,fun j u hj=>((zA kA cB).cell (zD (hc j u hj))).trans (hc j u hj)⟩
          rintro e q3 ⟨v3,rfl,aH,eC,gE⟩;have fE:Below W0.heap.size W0 q3:=zA cB eC;obtain⟨bZ,bA,dA,rfl,nZ,lZ,vI⟩:=zAh aH q3.heap.size (Nat.le_refl _);have zZ:q2.heap.size<=q3.heap.size:=eC.size;have kJ:=qq aH gE;have mJ:=jH.zRX eC;have eI:=kH.zRX eC;have cJ:=vH.zRX eC;have y3:=eC.size;obtain⟨⟨x0,-⟩,⟨x1,-⟩,⟨x2,-⟩,⟨x3,-⟩,⟨x4,-⟩,⟨x5,-⟩⟩:=HX.out.zRX fE
          (try go_wp2_with fail)
          refine hK.out _ _ (by(try dsimp only);go_keep) ?_;clear hK K hHeld;intro hHeld
          try simp only[Act.put,s1,s2,s3]
          clear x0 x1 x2 x3 x4 x5;refine tk 13 (h:=?_);refine rd [14] (rc (fun K hK=>?_) .nil);go_simp;have aC:=zC q3 (.cells #[.slice none 0 0,.slice none 0 0,.int .i64 0,.int .i64 0,.slice none 0 0,.slice none 0 0] 37);have kD:Below W0.heap.size W0 (q3.alloc (.cells #[.slice none 0 0,.slice none 0 0,.int .i64 0,.int .i64 0,.slice none 0 0,.slice none 0 0] 37)):=zA fE aC;have gF:zi (q3.alloc (.cells #[.slice none 0 0,.slice none 0 0,.int .i64 0,.int .i64 0,.slice none 0 0,.slice none 0 0] 37)) q3.heap.size (.slice none 0 0) (.slice none 0 0) (.int .i64 0) (.int .i64 0) (.slice none 0 0) (.slice none 0 0):=zi.zRZ _ _ _ _ _ _ _ _;have zV:W0.heap.size<=q3.heap.size/\q3.heap.size+1=(q3.alloc (.cells #[.slice none 0 0,.slice none 0 0,.int .i64 0,.int .i64 0,.slice none 0 0,.slice none 0 0] 37)).heap.size:=⟨fE.size,(World.size_alloc _ _).symm⟩;have fH:=mJ.zRX aC;have sG:=eI.zRX aC;have cH:=vI.zRX aC;have dH:=cJ.zRX aC;have cI:=kJ.zRX aC;obtain⟨⟨x0,-⟩,⟨x1,-⟩,⟨x2,-⟩,⟨x3,-⟩,⟨x4,-⟩,⟨x5,-⟩⟩:=HX.out.zRX kD
          (try go_wp2_with fail)
          refine hK.out _ _ (by(try dsimp only);go_keep) ?_;clear hK K hHeld;intro hHeld
          try simp only[Act.put,s1,s2,s3]
          clear x0 x1 x2 x3 x4 x5;generalize q3.alloc (.cells #[.slice none 0 0,.slice none 0 0,.int .i64 0,.int .i64 0,.slice none 0 0,.slice none 0 0] 37)=q4 at kD zV fH sG cH gF dH cI hHeld aC ⊢;refine rd [15] (rc (fun K hK=>?_) .nil);have hT:=zF.put6 q4 (q3.heap.size) (.slice b0 W.zRd.n d0) (.slice b1 W.zRd.hn d1) (.int .i64 W.time) (.int .i64 W.next) (.slice eA W.sn fA) (.slice bA W.pn dA);have lA:Below W0.heap.size W0 (put6 q4 (q3.heap.size) (.slice b0 W.zRd.n d0) (.slice b1 W.zRd.hn d1) (.int .i64 W.time) (.int .i64 W.next) (.slice eA W.sn fA) (.slice bA W.pn dA)):=kD.trans (hT.zRX (B:=W0.heap.size) kD.size (fun k e=>by omega));have kV:=gF.put (.slice b0 W.zRd.n d0) (.slice b1 W.zRd.hn d1) (.int .i64 W.time) (.int .i64 W.next) (.slice eA W.sn fA) (.slice bA W.pn dA);obtain⟨⟨y0,lE⟩,⟨y1,aE⟩,⟨y2,dE⟩,⟨y3,iF⟩,⟨y4,rE⟩,⟨y5,pE⟩⟩:=gF;obtain⟨⟨x0,-⟩,⟨x1,-⟩,⟨x2,-⟩,⟨x3,-⟩,⟨x4,-⟩,⟨x5,-⟩⟩:=HX.out.zRX lA;go_simp
          (try go_wp2_with fail)
          refine hK.out _ _ (by(try dsimp only);go_keep) ?_;clear hK K hHeld;intro hHeld
          try simp only[Act.put,s1,s2,s3]
          clear x0 x1 x2 x3 x4 x5;refine wpAnyH_done (by kernel_rfl) ?_ _;have cA:(put6 q4 (q3.heap.size) (.slice b0 W.zRd.n d0) (.slice b1 W.zRd.hn d1) (.int .i64 W.time) (.int .i64 W.next) (.slice eA W.sn fA) (.slice bA W.pn dA)).heap.size=q4.heap.size:=(by simp only[World.size_setCell]);go_wp2_with fail
          go_meet
          case rel=>
            refine⟨_,_,_,_,_,_,_,_,_,_,_,bS,bZ,rfl,kV,fH.zRf hT (fun k e=>by omega),fun h0=>⟨(lS h0).1,by have:=lS h0;omega⟩,fun h0=>⟨(lZ h0).1,by have:=lZ h0;omega,fun h1=>by have:=lZ h0;have:=lS h1;omega⟩,nS,nZ,(sG.turned0 hT (fun q e h0 e2=>by have:=lS h0;omega)).weak (by rw[cA];omega),(cH.turned0 hT (fun q e h0 e2=>by have:=lZ h0;omega)).weak (by rw[cA];omega),by omega,fun h0=>by have:=lS h0;omega,fun h0=>by have:=lZ h0;omega,by omega,by omega,by omega,by rw[cA];omega,by rw[cA];omega,((((((dH.set _ _).set _ _).set _ _).set _ _).set _ _).set _ _),((((((cI.set _ _).set _ _).set _ _).set _ _).set _ _).set _ _),lA⟩
        · go_simp
          have bD:=zC q2 (.cells #[.slice none 0 0,.slice none 0 0,.int .i64 0,.int .i64 0,.slice none 0 0,.slice none 0 0] 37);have lD:Below W0.heap.size W0 (q2.alloc (.cells #[.slice none 0 0,.slice none 0 0,.int .i64 0,.int .i64 0,.slice none 0 0,.slice none 0 0] 37)):=zA cB bD;have sH:zi (q2.alloc (.cells #[.slice none 0 0,.slice none 0 0,.int .i64 0,.int .i64 0,.slice none 0 0,.slice none 0 0] 37)) q2.heap.size (.slice none 0 0) (.slice none 0 0) (.int .i64 0) (.int .i64 0) (.slice none 0 0) (.slice none 0 0):=zi.zRZ _ _ _ _ _ _ _ _;have zV:W0.heap.size<=q2.heap.size/\q2.heap.size+1=(q2.alloc (.cells #[.slice none 0 0,.slice none 0 0,.int .i64 0,.int .i64 0,.slice none 0 0,.slice none 0 0] 37)).heap.size:=⟨cB.size,(World.size_alloc _ _).symm⟩;have aI:=jH.zRX bD;have gH:=kH.zRX bD;have bI:=vH.zRX bD;obtain⟨⟨x0,-⟩,⟨x1,-⟩,⟨x2,-⟩,⟨x3,-⟩,⟨x4,-⟩,⟨x5,-⟩⟩:=HX.out.zRX lD
          (try go_wp2_with fail)
          refine hK.out _ _ (by(try dsimp only);go_keep) ?_;clear hK K hHeld;intro hHeld
          try simp only[Act.put,s1,s2,s3]
          clear x0 x1 x2 x3 x4 x5;generalize q2.alloc (.cells #[.slice none 0 0,.slice none 0 0,.int .i64 0,.int .i64 0,.slice none 0 0,.slice none 0 0] 37)=q6 at lD zV aI gH sH bI hHeld bD ⊢;refine rd [12] (rc (fun K hK=>?_) .nil);go_simp;go_at_call 170;refine(zBV a3 W.pn c3 (zBC W.zRe sA W.pn) _ (zBl _ _ _) (zCm _ _ _ jD.out) rD (fun h0=>?_)).mono ?_
          · obtain⟨b,off,ha,hc⟩:=pC.out h0
            exact⟨b,off,ha,fun j u hj=>((zA kA lD).cell (zD (hc j u hj))).trans (hc j u hj)⟩
          rintro e q7 ⟨v7,rfl,tH,oB,sF⟩;have dF:Below W0.heap.size W0 q7:=zA lD oB;obtain⟨bZ,bA,dA,rfl,nZ,lZ,lI⟩:=zAh tH q7.heap.size (Nat.le_refl _);have zZ:q6.heap.size<=q7.heap.size:=oB.size;have aJ:=qq tH sF;have jI:=aI.zRX oB;have tI:=gH.zRX oB;have oH:=sH.zRX oB;have nJ:=bI.zRX oB;have y7:=oB.size;obtain⟨⟨x0,-⟩,⟨x1,-⟩,⟨x2,-⟩,⟨x3,-⟩,⟨x4,-⟩,⟨x5,-⟩⟩:=HX.out.zRX dF
          (try go_wp2_with fail)
          refine hK.out _ _ (by(try dsimp only);go_keep) ?_;clear hK K hHeld;intro hHeld
          try simp only[Act.put,s1,s2,s3]
          clear x0 x1 x2 x3 x4 x5;refine tk 13 (h:=?_);refine rd [15] (rc (fun K hK=>?_) .nil);have hT:=zF.put6 q7 (q2.heap.size) (.slice b0 W.zRd.n d0) (.slice b1 W.zRd.hn d1) (.int .i64 W.time) (.int .i64 W.next) (.slice eA W.sn fA) (.slice bA W.pn dA);have lA:Below W0.heap.size W0 (put6 q7 (q2.heap.size) (.slice b0 W.zRd.n d0) (.slice b1 W.zRd.hn d1) (.int .i64 W.time) (.int .i64 W.next) (.slice eA W.sn fA) (.slice bA W.pn dA)):=dF.trans (hT.zRX (B:=W0.heap.size) dF.size (fun k e=>by omega));have kV:=oH.put (.slice b0 W.zRd.n d0) (.slice b1 W.zRd.hn d1) (.int .i64 W.time) (.int .i64 W.next) (.slice eA W.sn fA) (.slice bA W.pn dA);obtain⟨⟨y0,lE⟩,⟨y1,aE⟩,⟨y2,dE⟩,⟨y3,iF⟩,⟨y4,rE⟩,⟨y5,pE⟩⟩:=oH;obtain⟨⟨x0,-⟩,⟨x1,-⟩,⟨x2,-⟩,⟨x3,-⟩,⟨x4,-⟩,⟨x5,-⟩⟩:=HX.out.zRX lA;go_simp
          (try go_wp2_with fail)
          refine hK.out _ _ (by(try dsimp only);go_keep) ?_;clear hK K hHeld;intro hHeld
          try simp only[Act.put,s1,s2,s3]
          clear x0 x1 x2 x3 x4 x5;refine wpAnyH_done (by kernel_rfl) ?_ _;have cA:(put6 q7 (q2.heap.size) (.slice b0 W.zRd.n d0) (.slice b1 W.zRd.hn d1) (.int .i64 W.time) (.int .i64 W.next) (.slice eA W.sn fA) (.slice bA W.pn dA)).heap.size=q7.heap.size:=(by simp only[World.size_setCell]);go_wp2_with fail
          go_meet
          case rel=>
            refine⟨_,_,_,_,_,_,_,_,_,_,_,bS,bZ,rfl,kV,jI.zRf hT (fun k e=>by omega),fun h0=>⟨(lS h0).1,by have:=lS h0;omega⟩,fun h0=>⟨(lZ h0).1,by have:=lZ h0;omega,fun h1=>by have:=lZ h0;have:=lS h1;omega⟩,nS,nZ,(tI.turned0 hT (fun q e h0 e2=>by have:=lS h0;omega)).weak (by rw[cA];omega),(lI.turned0 hT (fun q e h0 e2=>by have:=lZ h0;omega)).weak (by rw[cA];omega),by omega,fun h0=>by have:=lS h0;omega,fun h0=>by have:=lZ h0;omega,by omega,by omega,by omega,by rw[cA];omega,by rw[cA];omega,((((((nJ.set _ _).set _ _).set _ _).set _ _).set _ _).set _ _),((((((aJ.set _ _).set _ _).set _ _).set _ _).set _ _).set _ _),lA⟩
      · go_simp
        have jG:=zC q1 (.cells #[.slice none 0 0,.slice none 0 0,.int .i64 0,.int .i64 0,.slice none 0 0,.slice none 0 0] 37);have tD:Below W0.heap.size W0 (q1.alloc (.cells #[.slice none 0 0,.slice none 0 0,.int .i64 0,.int .i64 0,.slice none 0 0,.slice none 0 0] 37)):=zA lC jG;have lH:zi (q1.alloc (.cells #[.slice none 0 0,.slice none 0 0,.int .i64 0,.int .i64 0,.slice none 0 0,.slice none 0 0] 37)) q1.heap.size (.slice none 0 0) (.slice none 0 0) (.int .i64 0) (.int .i64 0) (.slice none 0 0) (.slice none 0 0):=zi.zRZ _ _ _ _ _ _ _ _;have zV:W0.heap.size<=q1.heap.size/\q1.heap.size+1=(q1.alloc (.cells #[.slice none 0 0,.slice none 0 0,.int .i64 0,.int .i64 0,.slice none 0 0,.slice none 0 0] 37)).heap.size:=⟨lC.size,(World.size_alloc _ _).symm⟩;have pH:=nE.zRX jG;obtain⟨⟨x0,-⟩,⟨x1,-⟩,⟨x2,-⟩,⟨x3,-⟩,⟨x4,-⟩,⟨x5,-⟩⟩:=HX.out.zRX tD
        (try go_wp2_with fail)
        refine hK.out _ _ (by(try dsimp only);go_keep) ?_;clear hK K hHeld;intro hHeld
        try simp only[Act.put,s1,s2,s3]
        clear x0 x1 x2 x3 x4 x5;generalize q1.alloc (.cells #[.slice none 0 0,.slice none 0 0,.int .i64 0,.int .i64 0,.slice none 0 0,.slice none 0 0] 37)=q9 at tD zV pH lH hHeld jG ⊢;refine rd [9] (rc (fun K hK=>?_) .nil);go_simp;go_at_call 169;refine(zDH a2 W.sn c2 (zC8 W.zRg dB W.sn) _ (zDb _ _ _) (zEw _ _ _ vD.out) eG (fun h0=>?_)).mono ?_
        · obtain⟨b,off,ha,hc⟩:=nD.out h0
          exact⟨b,off,ha,fun j u hj=>((zA kA tD).cell (zD (hc j u hj))).trans (hc j u hj)⟩
        rintro e oD ⟨oJ,rfl,dD,oA,jC⟩;have jB:Below W0.heap.size W0 oD:=zA tD oA;obtain⟨bS,eA,fA,rfl,nS,lS,gG⟩:=zB4 dD oD.heap.size (Nat.le_refl _);have zS:q9.heap.size<=oD.heap.size:=oA.size;have jF:=qq dD jC;have iG:=pH.zRX oA;have tE:=lH.zRX oA;have oK:=oA.size;obtain⟨⟨x0,-⟩,⟨x1,-⟩,⟨x2,-⟩,⟨x3,-⟩,⟨x4,-⟩,⟨x5,-⟩⟩:=HX.out.zRX jB
        (try go_wp2_with fail)
        refine hK.out _ _ (by(try dsimp only);go_keep) ?_;clear hK K hHeld;intro hHeld
        try simp only[Act.put,s1,s2,s3]
        clear x0 x1 x2 x3 x4 x5;refine rd [12] (rc (fun K hK=>?_) .nil);go_simp;go_at_call 170;refine(zBV a3 W.pn c3 (zBC W.zRe sA W.pn) _ (zBl _ _ _) (zCm _ _ _ jD.out) rD (fun h0=>?_)).mono ?_
        · obtain⟨b,off,ha,hc⟩:=pC.out h0
          exact⟨b,off,ha,fun j u hj=>((zA kA jB).cell (zD (hc j u hj))).trans (hc j u hj)⟩
        rintro e kB ⟨eK,rfl,tC,iA,cD⟩;have pB:Below W0.heap.size W0 kB:=zA jB iA;obtain⟨bZ,bA,dA,rfl,nZ,lZ,kF⟩:=zAh tC kB.heap.size (Nat.le_refl _);have zZ:oD.heap.size<=kB.heap.size:=iA.size;have vF:=qq tC cD;have lG:=iG.zRX iA;have fG:=gG.zRX iA;have fD:=tE.zRX iA;have oE:=jF.zRX iA;have jK:=iA.size;obtain⟨⟨x0,-⟩,⟨x1,-⟩,⟨x2,-⟩,⟨x3,-⟩,⟨x4,-⟩,⟨x5,-⟩⟩:=HX.out.zRX pB
        (try go_wp2_with fail)
        refine hK.out _ _ (by(try dsimp only);go_keep) ?_;clear hK K hHeld;intro hHeld
        try simp only[Act.put,s1,s2,s3]
        clear x0 x1 x2 x3 x4 x5;refine tk 13 (h:=?_);refine rd [15] (rc (fun K hK=>?_) .nil);have hT:=zF.put6 kB (q1.heap.size) (.slice b0 W.zRd.n d0) (.slice b1 W.zRd.hn d1) (.int .i64 W.time) (.int .i64 W.next) (.slice eA W.sn fA) (.slice bA W.pn dA);have lA:Below W0.heap.size W0 (put6 kB (q1.heap.size) (.slice b0 W.zRd.n d0) (.slice b1 W.zRd.hn d1) (.int .i64 W.time) (.int .i64 W.next) (.slice eA W.sn fA) (.slice bA W.pn dA)):=pB.trans (hT.zRX (B:=W0.heap.size) pB.size (fun k e=>by omega));have kV:=fD.put (.slice b0 W.zRd.n d0) (.slice b1 W.zRd.hn d1) (.int .i64 W.time) (.int .i64 W.next) (.slice eA W.sn fA) (.slice bA W.pn dA);obtain⟨⟨y0,lE⟩,⟨y1,aE⟩,⟨y2,dE⟩,⟨y3,iF⟩,⟨y4,rE⟩,⟨y5,pE⟩⟩:=fD;obtain⟨⟨x0,-⟩,⟨x1,-⟩,⟨x2,-⟩,⟨x3,-⟩,⟨x4,-⟩,⟨x5,-⟩⟩:=HX.out.zRX lA;go_simp
        (try go_wp2_with fail)
        refine hK.out _ _ (by(try dsimp only);go_keep) ?_;clear hK K hHeld;intro hHeld
        try simp only[Act.put,s1,s2,s3]
        clear x0 x1 x2 x3 x4 x5;refine wpAnyH_done (by kernel_rfl) ?_ _;have cA:(put6 kB (q1.heap.size) (.slice b0 W.zRd.n d0) (.slice b1 W.zRd.hn d1) (.int .i64 W.time) (.int .i64 W.next) (.slice eA W.sn fA) (.slice bA W.pn dA)).heap.size=kB.heap.size:=(by simp only[World.size_setCell]);go_wp2_with fail
        go_meet
        case rel=>
          refine⟨_,_,_,_,_,_,_,_,_,_,_,bS,bZ,rfl,kV,lG.zRf hT (fun k e=>by omega),fun h0=>⟨(lS h0).1,by have:=lS h0;omega⟩,fun h0=>⟨(lZ h0).1,by have:=lZ h0;omega,fun h1=>by have:=lZ h0;have:=lS h1;omega⟩,nS,nZ,(fG.turned0 hT (fun q e h0 e2=>by have:=lS h0;omega)).weak (by rw[cA];omega),(kF.turned0 hT (fun q e h0 e2=>by have:=lZ h0;omega)).weak (by rw[cA];omega),by omega,fun h0=>by have:=lS h0;omega,fun h0=>by have:=lZ h0;omega,by omega,by omega,by omega,by rw[cA];omega,by rw[cA];omega,((((((oE.set _ _).set _ _).set _ _).set _ _).set _ _).set _ _),((((((vF.set _ _).set _ _).set _ _).set _ _).set _ _).set _ _),lA⟩
    · go_simp
      have fC:=zC q0 (.cells #[.slice none 0 0,.slice none 0 0,.int .i64 0,.int .i64 0,.slice none 0 0,.slice none 0 0] 37);have nA:Below W0.heap.size W0 (q0.alloc (.cells #[.slice none 0 0,.slice none 0 0,.int .i64 0,.int .i64 0,.slice none 0 0,.slice none 0 0] 37)):=zA dC fC;have aD:zi (q0.alloc (.cells #[.slice none 0 0,.slice none 0 0,.int .i64 0,.int .i64 0,.slice none 0 0,.slice none 0 0] 37)) q0.heap.size (.slice none 0 0) (.slice none 0 0) (.int .i64 0) (.int .i64 0) (.slice none 0 0) (.slice none 0 0):=zi.zRZ _ _ _ _ _ _ _ _;have zV:W0.heap.size<=q0.heap.size/\q0.heap.size+1=(q0.alloc (.cells #[.slice none 0 0,.slice none 0 0,.int .i64 0,.int .i64 0,.slice none 0 0,.slice none 0 0] 37)).heap.size:=⟨dC.size,(World.size_alloc _ _).symm⟩;obtain⟨⟨x0,-⟩,⟨x1,-⟩,⟨x2,-⟩,⟨x3,-⟩,⟨x4,-⟩,⟨x5,-⟩⟩:=HX.out.zRX nA
      (try go_wp2_with fail)
      refine hK.out _ _ (by(try dsimp only);go_keep) ?_;clear hK K hHeld;intro hHeld
      try simp only[Act.put,s1,s2,s3]
      clear x0 x1 x2 x3 x4 x5;generalize q0.alloc (.cells #[.slice none 0 0,.slice none 0 0,.int .i64 0,.int .i64 0,.slice none 0 0,.slice none 0 0] 37)=q13 at nA zV aD hHeld fC ⊢;refine rd [2] (rc (fun K hK=>?_) .nil);go_simp;go_at_call 168;refine(zB3 _ _ lo hi W.zRd _ ((Hp.out.zRd.zRX kA).zRX nA) bG).mono ?_;rintro e pF ⟨u0,u1,rfl,gC,aB⟩;obtain⟨b0,d0,b1,d1,rfl,rfl⟩:=gC.form;have zP:W0.heap.size<=q13.heap.size/\q13.heap.size<=pF.heap.size:=⟨nA.size,aB.size⟩;have sB:Below W0.heap.size W0 pF:=zA nA aB;have dG:=aD.zRX aB;have mK:=aB.size;obtain⟨⟨x0,-⟩,⟨x1,-⟩,⟨x2,-⟩,⟨x3,-⟩,⟨x4,-⟩,⟨x5,-⟩⟩:=HX.out.zRX sB
      (try go_wp2_with fail)
      refine hK.out _ _ (by(try dsimp only);go_keep) ?_;clear hK K hHeld;intro hHeld
      try simp only[Act.put,s1,s2,s3]
      clear x0 x1 x2 x3 x4 x5;refine rd [9] (rc (fun K hK=>?_) .nil);go_simp;go_at_call 169;refine(zDH a2 W.sn c2 (zC8 W.zRg dB W.sn) _ (zDb _ _ _) (zEw _ _ _ vD.out) eG (fun h0=>?_)).mono ?_
      · obtain⟨b,off,ha,hc⟩:=nD.out h0
        exact⟨b,off,ha,fun j u hj=>((zA kA sB).cell (zD (hc j u hj))).trans (hc j u hj)⟩
      rintro e pD ⟨nK,rfl,vC,pA,mC⟩;have bC:Below W0.heap.size W0 pD:=zA sB pA;obtain⟨bS,eA,fA,rfl,nS,lS,lF⟩:=zB4 vC pD.heap.size (Nat.le_refl _);have zS:pF.heap.size<=pD.heap.size:=pA.size;have cF:=qq vC mC;have eF:=gC.zRX pA;have fF:=dG.zRX pA;have lK:=pA.size;obtain⟨⟨x0,-⟩,⟨x1,-⟩,⟨x2,-⟩,⟨x3,-⟩,⟨x4,-⟩,⟨x5,-⟩⟩:=HX.out.zRX bC
      (try go_wp2_with fail)
      refine hK.out _ _ (by(try dsimp only);go_keep) ?_;clear hK K hHeld;intro hHeld
      try simp only[Act.put,s1,s2,s3]
      clear x0 x1 x2 x3 x4 x5;refine rd [12] (rc (fun K hK=>?_) .nil);go_simp;go_at_call 170;refine(zBV a3 W.pn c3 (zBC W.zRe sA W.pn) _ (zBl _ _ _) (zCm _ _ _ jD.out) rD (fun h0=>?_)).mono ?_
      · obtain⟨b,off,ha,hc⟩:=pC.out h0
        exact⟨b,off,ha,fun j u hj=>((zA kA bC).cell (zD (hc j u hj))).trans (hc j u hj)⟩
      rintro e tB ⟨pJ,rfl,gD,jA,kC⟩;have vB:Below W0.heap.size W0 tB:=zA bC jA;obtain⟨bZ,bA,dA,rfl,nZ,lZ,kE⟩:=zAh gD tB.heap.size (Nat.le_refl _);have zZ:pD.heap.size<=tB.heap.size:=jA.size;have nG:=qq gD kC;have nF:=eF.zRX jA;have mG:=lF.zRX jA;have eD:=fF.zRX jA;have mE:=cF.zRX jA;have kK:=jA.size;obtain⟨⟨x0,-⟩,⟨x1,-⟩,⟨x2,-⟩,⟨x3,-⟩,⟨x4,-⟩,⟨x5,-⟩⟩:=HX.out.zRX vB
      (try go_wp2_with fail)
      refine hK.out _ _ (by(try dsimp only);go_keep) ?_;clear hK K hHeld;intro hHeld
      try simp only[Act.put,s1,s2,s3]
      clear x0 x1 x2 x3 x4 x5;refine tk 13 (h:=?_);refine rd [15] (rc (fun K hK=>?_) .nil);have hT:=zF.put6 tB (q0.heap.size) (.slice b0 W.zRd.n d0) (.slice b1 W.zRd.hn d1) (.int .i64 W.time) (.int .i64 W.next) (.slice eA W.sn fA) (.slice bA W.pn dA);have lA:Below W0.heap.size W0 (put6 tB (q0.heap.size) (.slice b0 W.zRd.n d0) (.slice b1 W.zRd.hn d1) (.int .i64 W.time) (.int .i64 W.next) (.slice eA W.sn fA) (.slice bA W.pn dA)):=vB.trans (hT.zRX (B:=W0.heap.size) vB.size (fun k e=>by omega));have kV:=eD.put (.slice b0 W.zRd.n d0) (.slice b1 W.zRd.hn d1) (.int .i64 W.time) (.int .i64 W.next) (.slice eA W.sn fA) (.slice bA W.pn dA);obtain⟨⟨y0,lE⟩,⟨y1,aE⟩,⟨y2,dE⟩,⟨y3,iF⟩,⟨y4,rE⟩,⟨y5,pE⟩⟩:=eD;obtain⟨⟨x0,-⟩,⟨x1,-⟩,⟨x2,-⟩,⟨x3,-⟩,⟨x4,-⟩,⟨x5,-⟩⟩:=HX.out.zRX lA;go_simp
      (try go_wp2_with fail)
      refine hK.out _ _ (by(try dsimp only);go_keep) ?_;clear hK K hHeld;intro hHeld
      try simp only[Act.put,s1,s2,s3]
      clear x0 x1 x2 x3 x4 x5;refine wpAnyH_done (by kernel_rfl) ?_ _;have cA:(put6 tB (q0.heap.size) (.slice b0 W.zRd.n d0) (.slice b1 W.zRd.hn d1) (.int .i64 W.time) (.int .i64 W.next) (.slice eA W.sn fA) (.slice bA W.pn dA)).heap.size=tB.heap.size:=(by simp only[World.size_setCell]);go_wp2_with fail
      go_meet
      case rel=>
        refine⟨_,_,_,_,_,_,_,_,_,_,_,bS,bZ,rfl,kV,nF.zRf hT (fun k e=>by omega),fun h0=>⟨(lS h0).1,by have:=lS h0;omega⟩,fun h0=>⟨(lZ h0).1,by have:=lZ h0;omega,fun h1=>by have:=lZ h0;have:=lS h1;omega⟩,nS,nZ,(mG.turned0 hT (fun q e h0 e2=>by have:=lS h0;omega)).weak (by rw[cA];omega),(kE.turned0 hT (fun q e h0 e2=>by have:=lZ h0;omega)).weak (by rw[cA];omega),by omega,fun h0=>by have:=lS h0;omega,fun h0=>by have:=lZ h0;omega,by omega,by omega,by omega,by rw[cA];omega,by rw[cA];omega,((((((mE.set _ _).set _ _).set _ _).set _ _).set _ _).set _ _),((((((nG.set _ _).set _ _).set _ _).set _ _).set _ _).set _ _),lA⟩
  case rest=>
    obtain⟨X,b0,d0,b1,d1,aS,cS,aZ,cZ,l,h,bS,bZ,rfl,kV,kP,hS,hZ,nS,nZ,kS,kZ,iK,bH,iH,z1,z2,z3,z4,z5,rA,rB,eH⟩:=hcut;have oF:=zT kV;have vG:=zT kP;have oC:=zT hS;have eB:=zT hZ;have dJ:=kA.size;have rJ:=dI.out;have HS:=zT kS;have HZ:=zT kZ;have aG:=kS.lt;have iC:=kZ.lt;clear kV kP hS hZ kS kZ HX bG vD jD nD pC;obtain⟨⟨x0,-⟩,⟨x1,-⟩,⟨x2,-⟩,⟨x3,-⟩,⟨x4,-⟩,⟨x5,-⟩⟩:=oF.out;go_wp2;clear x0 x1 x2 x3 x4 x5
    go_loopw [4,5,25] (fun _ _ i wr=>∃(k:Nat) (kb:Nat->Nat) (kv:Nat->Value),k<=W.sn/\i = .int .i64 k/\yD wr bS wc.heap.size W.sn k W.zRg kb kv dB/\zi wr X (.slice b0 W.zRd.n d0) (.slice b1 W.zRd.hn d1) (.int .i64 W.time) (.int .i64 W.next) (.slice aS W.sn cS) (.slice aZ W.pn cZ)/\wc.heap.size<=wr.heap.size/\zy wr l h (.slice b0 W.zRd.n d0) (.slice b1 W.zRd.hn d1) W.zRd/\qb wr bZ wc.heap.size W.pn 0 W.zRe (fun _=>0) sA sA/\(Below W0.heap.size W0 wr/\yg wr 67 6 (.slice aS W.sn cS) W.sn/\yg wr 99 8 (.slice aZ W.pn cZ) W.pn/\∀j,j<k->yg wr 61 2 (kv j) (W.zRg j).dn)) (fun _ _ i _=>W.sn - (intOf i).toNat)
    case atStart=>exact⟨0,_,_,Nat.zero_le _,rfl,HS.out,oF.out,Nat.le_refl _,vG.out,HZ.out,eH,rA,rB,fun j hj=>absurd hj (Nat.not_lt_zero _)⟩
    case round=>
      obtain⟨k,kb,kv,hk,rfl,hh,hI⟩:=hrel;have Hh:=zT hh;have HI:=zT hI;clear hh hI;by_cases gA:k<W.sn
      · have tF:(k:Int)<(W.sn:Int):=by omega
        have mI:=HI.out.2.1;have fI:=Hh.out.lt (by omega);obtain rfl:=(oC.out (by omega)).1;obtain⟨-,da,dc,tA,-⟩:=id (iB.out k gA).1;have hD:=(iB.out k gA).1;rw[tA]at hD;have HD:=zT hD;clear hD;obtain⟨⟨h0,g0⟩,⟨h1,g1⟩,⟨h2,g2⟩,⟨h3,g3⟩,⟨h4,g4⟩,⟨h5,g5⟩⟩:=Hh.out.zRq k gA;rw[if_neg (by omega),tA]at h5;obtain⟨⟨x0,-⟩,⟨x1,-⟩,⟨x2,-⟩,⟨x3,-⟩,⟨x4,-⟩,⟨x5,-⟩⟩:=HI.out.1;have ha:=zC wr (.cells #[.string (W.zRg k).name,.int .i64 (W.zRg k).origin,.int .i64 (W.zRg k).zRh,.int .i64 (W.zRg k).rs,.int .i64 (W.zRg k).rb,.slice da (W.zRg k).dn dc] 67);have hy:=zi.zRZ wr (.string (W.zRg k).name) (.int .i64 (W.zRg k).origin) (.int .i64 (W.zRg k).zRh) (.int .i64 (W.zRg k).rs) (.int .i64 (W.zRg k).rb) (.slice da (W.zRg k).dn dc) 67;have bF:(wr.alloc (.cells #[.string (W.zRg k).name,.int .i64 (W.zRg k).origin,.int .i64 (W.zRg k).zRh,.int .i64 (W.zRg k).rs,.int .i64 (W.zRg k).rb,.slice da (W.zRg k).dn dc] 67)).heap.size=wr.heap.size+1:=World.size_alloc _ _;have HY:=zT hy;have HA:=zT ha;clear hy;go_wp2_with fail;clear h0 g0 h1 g1 h2 g2 h3 g3 h4 g4 h5 g5 x0 x1 x2 x3 x4 x5;have bB:=zT (Hh.out.zRX HA.out);have rC:=zA kA (zA HI.out.2.2.2.2.1 HA.out);have iD:=zT (HD.out.zRX rC);have vA:=zT (HI.out.1.zRX HA.out);have hV:wr.heap.size<wr.heap.size+1:=(by omega);generalize wr.alloc (.cells #[.string (W.zRg k).name,.int .i64 (W.zRg k).origin,.int .i64 (W.zRg k).zRh,.int .i64 (W.zRg k).rs,.int .i64 (W.zRg k).rb,.slice da (W.zRg k).dn dc] 67)=W1 at HY HA bB rC iD vA bF ⊢;obtain⟨⟨x0,-⟩,⟨x1,-⟩,⟨x2,-⟩,⟨x3,-⟩,⟨x4,-⟩,⟨x5,-⟩⟩:=vA.out;obtain⟨⟨y0,-⟩,⟨y1,-⟩,⟨y2,-⟩,⟨y3,-⟩,⟨y4,-⟩,⟨y5,-⟩⟩:=HY.out;obtain⟨⟨h0,g0⟩,⟨h1,g1⟩,⟨h2,g2⟩,⟨h3,g3⟩,⟨h4,g4⟩,⟨h5,g5⟩⟩:=bB.out.zRq k gA;rw[if_neg (by omega),tA]at h5;have e1:X≠bS:=bH (by omega);have iJ:=e1.symm;have e2:wr.heap.size≠bS:=(by omega);have kI:=e2.symm;go_region_held3 (fun w'=>w'.cell? ⟨X,4,none⟩=some (.slice (some ⟨bS,0,none⟩) W.sn cS)/\w'.cell? ⟨wr.heap.size,5,none⟩=some (.slice da (W.zRg k).dn dc)) (go_keep)
          (first
            | (go_at_call 171
               refine(zEd _ (W.zRg k).dn lo hi (W.zRg k).ds (W.zRg k).db _ (iD.out.zRX (Below.refl _ _).drew) (iE.out k gA)).mono ?_;rintro e w2 ⟨⟨nv,nb,rfl,mA,nC,gB⟩,cB⟩;have aA:=zK cB;obtain⟨_,na,nc,rfl,_⟩:=id nC;obtain⟨⟨z0,-⟩,⟨z1,-⟩,⟨z2,-⟩,⟨z3,-⟩,⟨z4,-⟩,⟨z5,-⟩⟩:=vA.out.zRX aA;obtain⟨⟨v0,-⟩,⟨v1,-⟩,⟨v2,-⟩,⟨v3,-⟩,⟨v4,-⟩,⟨v5,-⟩⟩:=HY.out.zRX aA;obtain⟨⟨p0,nI⟩,⟨p1,gI⟩,⟨p2,fJ⟩,⟨p3,oI⟩,⟨p4,lJ⟩,⟨p5,jJ⟩⟩:=(bB.out.zRX aA).zRq k gA;rw[if_neg (by omega),tA]at p5))
        have iI:=aA.size;have vE:=zT (bB.out.next gA (by omega) aA nC (fun h0=>by have:=gB h0;have hd:W1.drew.heap.size=W1.heap.size:=rfl;omega));have hT:=zF.put w2 bS (k*6+5) (.slice na (W.zRg k).dn nc);have hB:=zA HA.out aA;have bE:=zT (HI.out.2.2.2.1);have fB:=zT (HI.out.2.2.2.2.2);have eE:=zT mA;clear mA;go_wp2;go_roundw
        case rel=>
          refine⟨k+1,_,_,by omega,by go_num,vE.out,(vA.out.zRX aA).zRf hT (fun e=>(bH (by omega)) e),by simp only[World.size_setCell];omega,(HI.out.2.2.1.zRX hB).zRf hT (fun q e=>by have:=(oC.out (by omega)).2;omega),(bE.out.zRX hB).zRf hT (fun q e=>⟨fun h0 e2=>by have:=(eB.out h0).2.2 (by omega);omega,by omega⟩) (Nat.zero_le _),(zA HI.out.2.2.2.2.1 hB).setCell (by show W0.heap.size<=bS;have:=(oC.out (by omega)).2;omega) _,(fB.out.1.zRX hB).set _ _,(fB.out.2.1.zRX hB).set _ _,fun j hj=>?_⟩;by_cases e:j=k
          · subst e
            simp only[if_true];exact eE.out.set _ _
          · simp only[if_neg e]
            exact((fB.out.2.2 j (by omega)).zRX hB).set _ _
        case measure=>simp[intOf];omega
      · obtain rfl:k=W.sn:=by omega
        generalize wr=wA at Hh HI ⊢;generalize kb=kbS at Hh;generalize kv=kvS at Hh HI;have bJ:=HI.out.2.1;have sI:=zT Hh.out;have gJ:=zT (show ∀j,j<W.sn->0<(W.zRg j).dn->wc.heap.size<=kbS j/\kbS j<wA.heap.size from Hh.out.zRm);have sC:=zT HI.out.1;have kG:=zT HI.out.2.2.1;have mH:=zT (HI.out.2.2.2.1.weak bJ);have mF:=HI.out.2.2.2.2.1;have mB:=zT HI.out.2.2.2.2.2;clear Hh HI HZ HS oF vG eH;have HZ:=mH;clear mH;obtain⟨⟨x0,-⟩,⟨x1,-⟩,⟨x2,-⟩,⟨x3,-⟩,⟨x4,-⟩,⟨x5,-⟩⟩:=sC.out;go_wp2;clear x0 x1 x2 x3 x4 x5
        go_loopw [6,7,42] (fun _ _ i wr=>∃(k:Nat) (kb:Nat->Nat) (kv:Nat->Value),k<=W.pn/\i = .int .i64 k/\qb wr bZ wA.heap.size W.pn k W.zRe kb kv sA/\zi wr X (.slice b0 W.zRd.n d0) (.slice b1 W.zRd.hn d1) (.int .i64 W.time) (.int .i64 W.next) (.slice aS W.sn cS) (.slice aZ W.pn cZ)/\wA.heap.size<=wr.heap.size/\zy wr l h (.slice b0 W.zRd.n d0) (.slice b1 W.zRd.hn d1) W.zRd/\yD wr bS wc.heap.size W.sn W.sn W.zRg kbS kvS dB/\(Below W0.heap.size W0 wr/\yg wr 67 6 (.slice aS W.sn cS) W.sn/\yg wr 99 8 (.slice aZ W.pn cZ) W.pn/\(∀j,j<W.sn->yg wr 61 2 (kvS j) (W.zRg j).dn)/\∀j,j<k->yg wr 61 2 (kv j) (W.zRe j).dn)) (fun _ _ i _=>W.pn - (intOf i).toNat)
        case atStart=>exact⟨0,_,_,Nat.zero_le _,rfl,HZ.out,sC.out,Nat.le_refl _,kG.out,sI.out,mF,mB.out.1,mB.out.2.1,mB.out.2.2,fun j hj=>absurd hj (Nat.not_lt_zero _)⟩
        case round=>
          obtain⟨k,kb,kv,hk,rfl,hh,hI⟩:=hrel;have Hh:=zT hh;have HI:=zT hI;clear hh hI;by_cases gA:k<W.pn
          · have tF:(k:Int)<(W.pn:Int):=by omega
            have mI:=HI.out.2.1;have fI:=Hh.out.lt (by omega);obtain rfl:=(eB.out (by omega)).1;obtain⟨-,da,dc,tA,-⟩:=id (nB.out k gA).1;have hD:=(nB.out k gA).1;rw[tA]at hD;have HD:=zT hD;clear hD;obtain⟨⟨h0,g0⟩,⟨h1,g1⟩,⟨h2,g2⟩,⟨h3,g3⟩,⟨h4,g4⟩,⟨h5,g5⟩,⟨h6,g6⟩,⟨h7,g7⟩⟩:=Hh.out.zRq k gA;rw[if_neg (by omega),tA]at h7;obtain⟨⟨x0,-⟩,⟨x1,-⟩,⟨x2,-⟩,⟨x3,-⟩,⟨x4,-⟩,⟨x5,-⟩⟩:=HI.out.1;have ha:=zC wr (.cells #[.int .i64 (W.zRe k).id,.string (W.zRe k).name,.string (W.zRe k).set,.int .i64 (W.zRe k).zRh,.int .i64 (W.zRe k).time,.int .i64 (W.zRe k).rs,.int .i64 (W.zRe k).rb,.slice da (W.zRe k).dn dc] 99);have hy:=zC4.zRZ wr (.int .i64 (W.zRe k).id) (.string (W.zRe k).name) (.string (W.zRe k).set) (.int .i64 (W.zRe k).zRh) (.int .i64 (W.zRe k).time) (.int .i64 (W.zRe k).rs) (.int .i64 (W.zRe k).rb) (.slice da (W.zRe k).dn dc) 99;have bF:(wr.alloc (.cells #[.int .i64 (W.zRe k).id,.string (W.zRe k).name,.string (W.zRe k).set,.int .i64 (W.zRe k).zRh,.int .i64 (W.zRe k).time,.int .i64 (W.zRe k).rs,.int .i64 (W.zRe k).rb,.slice da (W.zRe k).dn dc] 99)).heap.size=wr.heap.size+1:=World.size_alloc _ _;have HY:=zT hy;have HA:=zT ha;clear hy;go_wp2_with fail;clear h0 g0 h1 g1 h2 g2 h3 g3 h4 g4 h5 g5 h6 g6 h7 g7 x0 x1 x2 x3 x4 x5;have bB:=zT (Hh.out.zRX HA.out);have rC:=zA kA (zA HI.out.2.2.2.2.1 HA.out);have iD:=zT (HD.out.zRX rC);have vA:=zT (HI.out.1.zRX HA.out);have hV:wr.heap.size<wr.heap.size+1:=(by omega);generalize wr.alloc (.cells #[.int .i64 (W.zRe k).id,.string (W.zRe k).name,.string (W.zRe k).set,.int .i64 (W.zRe k).zRh,.int .i64 (W.zRe k).time,.int .i64 (W.zRe k).rs,.int .i64 (W.zRe k).rb,.slice da (W.zRe k).dn dc] 99)=W1 at HY HA bB rC iD vA bF ⊢;obtain⟨⟨x0,-⟩,⟨x1,-⟩,⟨x2,-⟩,⟨x3,-⟩,⟨x4,-⟩,⟨x5,-⟩⟩:=vA.out;obtain⟨⟨y0,-⟩,⟨y1,-⟩,⟨y2,-⟩,⟨y3,-⟩,⟨y4,-⟩,⟨y5,-⟩,⟨y6,-⟩,⟨y7,-⟩⟩:=HY.out;obtain⟨⟨h0,g0⟩,⟨h1,g1⟩,⟨h2,g2⟩,⟨h3,g3⟩,⟨h4,g4⟩,⟨h5,g5⟩,⟨h6,g6⟩,⟨h7,g7⟩⟩:=bB.out.zRq k gA;rw[if_neg (by omega),tA]at h7;have e1:X≠bZ:=iH (by omega);have iJ:=e1.symm;have e2:wr.heap.size≠bZ:=(by omega);have kI:=e2.symm;go_region_held3 (fun w'=>w'.cell? ⟨X,5,none⟩=some (.slice (some ⟨bZ,0,none⟩) W.pn cZ)/\w'.cell? ⟨wr.heap.size,7,none⟩=some (.slice da (W.zRe k).dn dc)) (go_keep)
              (first
                | (go_at_call 171
                   refine(zEd _ (W.zRe k).dn lo hi (W.zRe k).ds (W.zRe k).db _ (iD.out.zRX (Below.refl _ _).drew) (cG.out k gA)).mono ?_;rintro e w2 ⟨⟨nv,nb,rfl,mA,nC,gB⟩,cB⟩;have aA:=zK cB;obtain⟨_,na,nc,rfl,_⟩:=id nC;obtain⟨⟨z0,-⟩,⟨z1,-⟩,⟨z2,-⟩,⟨z3,-⟩,⟨z4,-⟩,⟨z5,-⟩⟩:=vA.out.zRX aA;obtain⟨⟨v0,-⟩,⟨v1,-⟩,⟨v2,-⟩,⟨v3,-⟩,⟨v4,-⟩,⟨v5,-⟩,⟨v6,-⟩,⟨v7,-⟩⟩:=HY.out.zRX aA;obtain⟨⟨p0,nI⟩,⟨p1,gI⟩,⟨p2,fJ⟩,⟨p3,oI⟩,⟨p4,lJ⟩,⟨p5,jJ⟩,⟨p6,dK⟩,⟨p7,vJ⟩⟩:=(bB.out.zRX aA).zRq k gA;rw[if_neg (by omega),tA]at p7))
            have iI:=aA.size;have vE:=zT (bB.out.next gA (by omega) aA nC (fun h0=>by have:=gB h0;have hd:W1.drew.heap.size=W1.heap.size:=rfl;omega));have hT:=zF.put w2 bZ (k*8+7) (.slice na (W.zRe k).dn nc);have hB:=zA HA.out aA;have bE:=zT (HI.out.2.2.2.1);have fB:=zT (HI.out.2.2.2.2.2);have eE:=zT mA;clear mA;go_wp2;go_roundw
            case rel=>
              refine⟨k+1,_,_,by omega,by go_num,vE.out,(vA.out.zRX aA).zRf hT (fun e=>(iH (by omega)) e),by simp only[World.size_setCell];omega,(HI.out.2.2.1.zRX hB).zRf hT (fun q e=>by have:=(eB.out (by omega)).2;omega),(bE.out.zRX hB).zRf hT (fun q e=>⟨fun h0 e2=>by have:=(eB.out (by omega)).2.2 h0;omega,by omega⟩) (Nat.le_refl _),(zA HI.out.2.2.2.2.1 hB).setCell (by show W0.heap.size<=bZ;have:=(eB.out (by omega)).2;omega) _,(fB.out.1.zRX hB).set _ _,(fB.out.2.1.zRX hB).set _ _,fun j hj=>((fB.out.2.2.1 j hj).zRX hB).set _ _,fun j hj=>?_⟩;by_cases e:j=k
              · subst e
                simp only[if_true];exact eE.out.set _ _
              · simp only[if_neg e]
                exact((fB.out.2.2.2 j (by omega)).zRX hB).set _ _
            case measure=>simp[intOf];omega
          · obtain rfl:k=W.pn:=by omega
            have lB:=HI.out.2.2.2.2.1;have tG:=zT (HR.out.zRX lB);obtain⟨⟨x0,-⟩,⟨x1,-⟩,⟨x2,-⟩,⟨x3,-⟩,⟨x4,-⟩,⟨x5,-⟩⟩:=HI.out.1;obtain⟨⟨r0,bK⟩,⟨r1,aK⟩,⟨r2,sJ⟩,⟨r3,tJ⟩,⟨r4,gK⟩,⟨r5,cK⟩⟩:=tG.out;go_wp2;have hT:=zF.put6 wr (w.heap.size+1) (.slice b0 W.zRd.n d0) (.slice b1 W.zRd.hn d1) (.int .i64 W.time) (.int .i64 W.next) (.slice aS W.sn cS) (.slice aZ W.pn cZ);have cC:=tG.out.put (.slice b0 W.zRd.n d0) (.slice b1 W.zRd.hn d1) (.int .i64 W.time) (.int .i64 W.next) (.slice aS W.sn cS) (.slice aZ W.pn cZ);have pI:=(HI.out.2.2.2.1.own pG.out.1 (fun h0=>(oC.out h0).1) nS (fun i hi=>(iB.out i hi).2));have eJ:=(Hh.out.own pG.out.2 (fun h0=>(eB.out h0).1) nZ (fun i hi=>(nB.out i hi).2));have rI:=Hh.out.zRm;have sD:(put6 wr (w.heap.size+1) (.slice b0 W.zRd.n d0) (.slice b1 W.zRd.hn d1) (.int .i64 W.time) (.int .i64 W.next) (.slice aS W.sn cS) (.slice aZ W.pn cZ)).heap.size=wr.heap.size:=(by simp only[World.size_setCell]);have fK:=HI.out.2.1;have zS:∀q,zCN bS kbS W.sn W.zRg q->h<=q/\q<wA.heap.size/\(q<wc.heap.size->0<W.sn/\q=bS):=by
              rintro q (⟨h0,rfl⟩ | ⟨i,hi,h0,rfl⟩)
              · exact⟨(oC.out h0).2,by have:=aG h0;omega,fun _=>⟨h0,rfl⟩⟩
              · have:=gJ.out i hi h0;exact⟨by omega,by omega,fun hx=>by omega⟩
            have zZ:∀q,zCI bZ kb W.pn W.zRe q->h<=q/\q<wr.heap.size/\(q<wA.heap.size->0<W.pn/\q=bZ):=by
              rintro q (⟨h0,rfl⟩ | ⟨i,hi,h0,rfl⟩)
              · exact⟨(eB.out h0).2.1,by have:=iC h0;omega,fun _=>⟨h0,rfl⟩⟩
              · have:=rI i hi h0;exact⟨by omega,by omega,fun hx=>by omega⟩
            refine bodyPost_ret (v:=.agg #[.slice b0 W.zRd.n d0,.slice b1 W.zRd.hn d1,.int .i64 W.time,.int .i64 W.next,.slice aS W.sn cS,.slice aZ W.pn cZ]) (by simp[results,Tryz.results106,go_sem,cC.1.1,cC.2.1.1,cC.2.2.1.1,cC.2.2.2.1.1,cC.2.2.2.2.1.1,cC.2.2.2.2.2.1]) rfl ⟨_,_,_,_,rfl,?_,?_⟩
            · refine⟨fun q=>l<=q/\q<h,fun q=>zCN bS kbS W.sn W.zRg q,fun q=>zCI bZ kb W.pn W.zRe q,⟨?_,?_,?_,?_,?_,?_⟩,?_⟩
              · exact(HI.out.2.2.1.isIn (S:=fun q=>l<=q/\q<h) (fun k h1 h2=>⟨h1,h2⟩)).zRf hT (fun k hk e=>by omega)
              · exact zAf.put6 ⟨bS,kbS,kvS,pI,HI.out.2.2.2.1.zRk,fun q hq=>hq,HI.out.2.2.2.2.2.1,HI.out.2.2.2.2.2.2.2.1⟩ _ _ _ _ _ _ _ (fun e=>by have:=zS _ e;omega)
              · exact yz.put6 ⟨bZ,kb,kv,eJ,Hh.out.zRk,fun q hq=>hq,HI.out.2.2.2.2.2.2.1,HI.out.2.2.2.2.2.2.2.2⟩ _ _ _ _ _ _ _ (fun e=>by have:=zZ _ e;omega)
              · exact fun k hk e=>by have:=zS k e;omega
              · exact fun k hk e=>by have:=zZ k e;omega
              · intro k hk e
                have h1:=zS k hk;have h2:=(zZ k e).2.2 h1.2.1;have h3:=h1.2.2 (by have:=iC h2.1;omega);have:=(eB.out h2.1).2.2 h3.1;omega
              · intro k hk
                rw[sD];rcases hk with hk | hk | hk
                · omega
                · have:=zS k hk;omega
                · have:=zZ k hk;omega
            · exact(zA kA lB).trans (hT.zRX (B:=w.heap.size) (zA kA lB).size (fun k e=>by omega))
open Go.Extern.Stop Go.Stop Go.Extern
def zGO(w:World)(b:Nat)(p:Nat->Addr):Prop:=∀k,k<7->w.cell? ⟨b,k*2,none⟩=some (qM (p k))/\w.cell? ⟨b,k*2+1,none⟩=some (.int .i64 (zBb k))
theorem zGO.zRX{w w':World}{b:Nat}{p:Nat->Addr}(h:zGO w b p)(t:Below w.heap.size w w'):zGO w' b p:=
 fun k hk=>⟨(t.cell (zD (h k hk).1)).trans (h k hk).1,(t.cell (zD (h k hk).2)).trans (h k hk).2⟩
theorem zGO.zRZ(p:Nat->Addr)(w:World):zGO (w.alloc (.cells (zOY p) 199)) w.heap.size p:=
 fun k hk=>⟨(zJ (heap_alloc_new _ _) (zNk p hk).1).1,(zJ (heap_alloc_new _ _) (zNk p hk).2).1⟩
theorem zIe(p:Nat->Addr)(i:Nat)(hi:i<7)(w:World)(h:zE2 w p):Calls Tryz.prog 107 #[qM (p i)] w fun e w'=>e = .returned (.int .i64 (zBb i))/\Below w.heap.size w w':=by
 have HE:=zd h;clear h;have ha:=zC w (.cells (zOY p) 199);have HR:=zd (zGO.zRZ p w);go_enter Tryz.func107,Tryz.ntmps107;go_wp2_with fail;refine(zGK p _ HE.out).mono ?_;rintro e wa ⟨rfl,rfl⟩;go_wp2
 go_loopw [7] (fun i' wr=>∃k:Nat,k<=i/\i' = .int .i64 k/\zGO wr w.heap.size p/\Below w.heap.size w wr) (fun i _=>7 - (intOf i).toNat)
 case atStart=>exact⟨0,Nat.zero_le _,rfl,HR.out,ha⟩
 case round=>
  obtain⟨k,hk,rfl,hR,hb⟩:=hrel;have fA:(k:Int)<7:=(by omega);obtain⟨q0,q1⟩:=hR k (by omega);have eA:=zd hR;clear hR;have hn:=zC wr (.cells #[qM (p k),.int .i64 (zBb k)] 199);have aA:=zA hb hn;have dA:=zd (eA.out.zRX hn);have z0:(wr.alloc (.cells #[qM (p k),.int .i64 (zBb k)] 199)).cell? ⟨wr.heap.size,0,none⟩=some (qM (p k)):=(zJ (heap_alloc_new _ _) rfl).1;have z1:(wr.alloc (.cells #[qM (p k),.int .i64 (zBb k)] 199)).cell? ⟨wr.heap.size,1,none⟩=some (.int .i64 (zBb k)):=(zJ (heap_alloc_new _ _) rfl).1;go_wp2_with fail;generalize wr.alloc (.cells #[qM (p k),.int .i64 (zBb k)] 199)=W5 at z0 z1 hn aA dA ⊢;clear q0 q1;by_cases he:k=i
  ·subst he;refine(zQd (p k) _).mono ?_;rintro e wz ⟨rfl,rfl⟩;go_wp2;go_ret;exact⟨rfl,aA⟩
  ·obtain⟨ca,ta,bA⟩:=(HE.out.zRX aA).row i hi;obtain⟨cb,tb,cA⟩:=(HE.out.zRX aA).row k (by omega);refine(zPx (p i) (p k) ca cb ta tb _ (HE.out.ne i k hi (by omega) (Ne.symm he)) bA cA).mono ?_;rintro e wz ⟨rfl,rfl⟩;clear bA cA;go_wp2;go_roundw
   case rel=>exact⟨k+1,by omega,by go_num,dA.out,aA⟩
   case measure=>simp[intOf];omega
theorem zQb{k i:Nat}(hk:k<7)(hi:i<7)(h:k≠i):zBb k≠zBb i:=by
 revert h;revert k;revert i;decide
theorem zO6(k:Nat):zBb k≠0:=by unfold zBb;split<;>decide
def zLw(p:Nat->Addr)(o:zB9)(C:Nat)(w:World)(e:Ending)(w':World):Prop:=
 (∃v,e = .returned v)/\Below C w w'/\C<w'.heap.size/\((o.code=0/\∃z0 z1 z2 z3,yj w' C z0 z1 (.int .i64 o.world.time) (.int .i64 o.world.next) z2 z3 (.int .i64 o.id) (.int .i64 o.zRp) .nilIface/\qL w' (C+1) w'.heap.size z0 z1 z2 z3 o.world)\/(∃i,i<7/\o=zBz (zBb i)/\∃z0 z1 z2 z3 z4 z5 z6 z7,yj w' C z0 z1 z2 z3 z4 z5 z6 z7 (qM (p i))))
theorem zQ2(p:Nat->Addr)(tv nv qv:Value)(gd:Nat)(eA:Array Value)(nt nn m:Nat)(tx nx:Nat->ByteArray)(g:Nat->Nat)(lb:Nat->Array Value)(ei:Nat->Nat)(Q:Nat->Prop)(o:zB9)(v0 v1 v2 v3:Value)(lo hi:Nat)(W:zH)(w:World)(hE:zE2 w p)(h:zk w lo hi v0 v1 v2 v3 W)(lC:zCS W)(b1:qC W.zRd<=1048576)(b2:W.sn<=1048576)(b3:W.pn<=1048576)(b4:zDj W)
  (ht:zAK w tv nt tx) (hn:zAK w nv nn nx) (hq:zDC w p qv m g lb ei) (cC:∀i,i<m->ei i<7) (eg:∀i,i<m->Enters Tryz.prog (g i)) (ed:Enters Tryz.prog gd)
  (hQ:∀i,i<m->∀w',Below w.heap.size w w'->zAx W->(∀j,j<i->Q j)->Calls Tryz.prog (g i) (#[zz v0 v1 v2 v3 W] ++ lb i) w' fun e pC=>zG (Q i) e/\Below w'.heap.size w' pC)
  (hD:∀C w' z0 z1 z2 z3,w.heap.size<=C->Below w.heap.size w w'->C<w'.heap.size->zAx W->(¬∃i,i<nt/\8000<(tx i).size)->(¬∃i,i<nn/\¬yI (nx i))->(∀j,j<m->Q j)->qP w' (C+1) w'.heap.size z0 z1 z2 z3 W->yj w' C z0 z1 (.int .i64 W.time) (.int .i64 W.next) z2 z3 (.int .i64 0) (.int .i64 0) .nilIface->Calls Tryz.prog gd (#[.pointer (some ⟨C,0,none⟩)] ++ eA) w' (zLw p o C w')) :
  Calls Tryz.prog 38 #[.agg #[tv,nv,qv,.func (.func gd) #[] eA],zz v0 v1 v2 v3 W] w fun e w'=>∃r,zId W (∃i,i<nt/\8000<(tx i).size) (∃i,i<nn/\¬yI (nx i)) m Q ei r/\zB0 (zMe r o) w e w':=by
 have Hp:=zd h;have HE:=zd hE;have Ht:=zd ht;have Hn:=zd hn;have Hq:=zd hq;have HQ:=zd hQ;have oC:=zd hD;have Hg:=zd eg;have aD:=zd ed;have cD:=zd cC;obtain⟨t1,ta,tc,rfl,-⟩:=ht;obtain⟨n1,na,nc,rfl,-⟩:=hn;obtain⟨m1,qa,qc,rfl,-⟩:=hq;clear h hE hQ eg hD ed cC;have fC:=zC w (.cells #[.slice ta nt tc,.slice na nn nc,.slice qa m qc,.func (.func gd) #[] eA] 86);have sB:=zC (w.alloc (.cells #[.slice ta nt tc,.slice na nn nc,.slice qa m qc,.func (.func gd) #[] eA] 86)) (.cells #[v0,v1,.int .i64 W.time,.int .i64 W.next,v2,v3] 37);have cA:=zC ((w.alloc (.cells #[.slice ta nt tc,.slice na nn nc,.slice qa m qc,.func (.func gd) #[] eA] 86)).alloc (.cells #[v0,v1,.int .i64 W.time,.int .i64 W.next,v2,v3] 37)) (.cells #[.slice none 0 0,.slice none 0 0,.int .i64 0,.int .i64 0,.slice none 0 0,.slice none 0 0,.int .i64 0,.int .i64 0,.int .i64 0] 39);have hb:=zA (zA fC sB) cA;have hd:=((zMj.zRZ w (.slice ta nt tc) (.slice na nn nc) (.slice qa m qc) (.func (.func gd) #[] eA) 86).zRX sB).zRX cA;have hx:=(zi.zRZ (w.alloc (.cells #[.slice ta nt tc,.slice na nn nc,.slice qa m qc,.func (.func gd) #[] eA] 86)) (v0) (v1) (.int .i64 W.time) (.int .i64 W.next) (v2) (v3) 37).zRX cA;have hr:=yj.zRZ ((w.alloc (.cells #[.slice ta nt tc,.slice na nn nc,.slice qa m qc,.func (.func gd) #[] eA] 86)).alloc (.cells #[v0,v1,.int .i64 W.time,.int .i64 W.next,v2,v3] 37)) (.slice none 0 0) (.slice none 0 0) (.int .i64 0) (.int .i64 0) (.slice none 0 0) (.slice none 0 0) (.int .i64 0) (.int .i64 0) (.int .i64 0) 39;rw[World.size_alloc]at hx;rw[World.size_alloc,World.size_alloc]at hr;have hz:w.heap.size+3<=(((w.alloc (.cells #[.slice ta nt tc,.slice na nn nc,.slice qa m qc,.func (.func gd) #[] eA] 86)).alloc (.cells #[v0,v1,.int .i64 W.time,.int .i64 W.next,v2,v3] 37)).alloc (.cells #[.slice none 0 0,.slice none 0 0,.int .i64 0,.int .i64 0,.slice none 0 0,.slice none 0 0,.int .i64 0,.int .i64 0,.int .i64 0] 39)).heap.size:=by rw[World.size_alloc,World.size_alloc,World.size_alloc];omega
 have HD:=zd hd;have HX:=zd hx;have HR:=zd hr;clear hd hx hr;have vC:=fun (w:World) (a:Addr)=>run_store Tryz.prog w a (.func (.func gd) #[] eA) .plain rfl
 obtain⟨⟨d0,-⟩,⟨d1,-⟩,⟨d2,-⟩,⟨d3,-⟩⟩:=HD.out;obtain⟨⟨x0,-⟩,⟨x1,-⟩,⟨x2,-⟩,⟨x3,-⟩,⟨x4,-⟩,⟨x5,-⟩⟩:=HX.out;go_enter Tryz.func38,Tryz.ntmps38;go_wp2_with fail;clear d0 d1 d2 d3 x0 x1 x2 x3 x4 x5 vC;generalize (((w.alloc (.cells #[.slice ta nt tc,.slice na nn nc,.slice qa m qc,.func (.func gd) #[] eA] 86)).alloc (.cells #[v0,v1,.int .i64 W.time,.int .i64 W.next,v2,v3] 37)).alloc (.cells #[.slice none 0 0,.slice none 0 0,.int .i64 0,.int .i64 0,.slice none 0 0,.slice none 0 0,.int .i64 0,.int .i64 0,.int .i64 0] 39))=W1 at hb HD HX HR hz ⊢;clear fC sB cA;refine(zL7 p _ _ _ _ nt nn m tx nx g lb ei Q _ _ _ _ lo hi W W1 (HE.out.zRX hb) (Hp.out.zRX hb) lC (Ht.out.zRX hb) (Hn.out.zRX hb) (Hq.out.zRX hb) Hg.out (fun i hi w' mC=>HQ.out i hi w' (zA hb mC))).mono ?_;rintro e w2 ⟨r,rfl,tA,cA⟩;have dA:=zd tA;have dC:=zA hb cA;have iD:=cA.size;have rC:=zd (HD.out.zRX cA);have sC:=zd (HX.out.zRX cA);have bC:=zd (HR.out.zRX cA);clear tA cA hb HD HX HR;cases r with
 | some i=>
  have eB:i<7:=by
   rcases dA.out with⟨_,e⟩ | ⟨_,_,e⟩ | ⟨_,_,_,k,hk,_,_,e⟩ | ⟨_,_,_,_,e⟩
   ·simp at e;omega
   ·simp at e;omega
   ·have:=cD.out k hk;simp at e;omega
   ·simp at e
  unfold zQ7;have lA:=zC w2 (.cells #[.slice none 0 0,.slice none 0 0,.int .i64 0,.int .i64 0,.slice none 0 0,.slice none 0 0,.int .i64 0,.int .i64 0,qM (p i)] 81);have HC:=zd (yj.zRZ w2 (.slice none 0 0) (.slice none 0 0) (.int .i64 0) (.int .i64 0) (.slice none 0 0) (.slice none 0 0) (.int .i64 0) (.int .i64 0) (qM (p i)) 81);have HR:=zd (bC.out.zRX lA);have nA:=zA dC lA;obtain⟨-,-,-,-,-,-,-,-,⟨c8,-⟩⟩:=HC.out;go_wp2_with fail;clear c8;generalize w2.alloc (.cells #[.slice none 0 0,.slice none 0 0,.int .i64 0,.int .i64 0,.slice none 0 0,.slice none 0 0,.int .i64 0,.int .i64 0,qM (p i)] 81)=W3 at HC HR nA ⊢;generalize w2.heap.size=C at HC ⊢;clear lA;obtain⟨-,-,-,-,-,-,-,-,⟨c8,-⟩⟩:=HC.out;go_wp2_with fail;refine(zIe p i eB _ (HE.out.zRX nA)).mono ?_;rintro e wz ⟨rfl,cB⟩;have bB:=zA nA cB;have rA:=zd (HR.out.zRX cB);clear c8;obtain⟨⟨r0,g0⟩,⟨r1,g1⟩,⟨r2,g2⟩,⟨r3,g3⟩,⟨r4,g4⟩,⟨r5,g5⟩,⟨r6,g6⟩,⟨r7,g7⟩,⟨r8,g8⟩⟩:=rA.out;go_wp2_with fail;have aA:=rA.out.put (.slice none 0 0) (.slice none 0 0) (.int .i64 0) (.int .i64 0) (.slice none 0 0) (.slice none 0 0) (.int .i64 0) (.int .i64 0) (.int .i64 (zBb i));have hT:=zF.put9 wz (w.heap.size+1+1) (.slice none 0 0) (.slice none 0 0) (.int .i64 0) (.int .i64 0) (.slice none 0 0) (.slice none 0 0) (.int .i64 0) (.int .i64 0) (.int .i64 (zBb i));clear r0 r1 r2 r3 r4 r5 r6 r7 r8 g0 g1 g2 g3 g4 g5 g6 g7 g8;refine bodyPost_ret (v:=.agg #[.slice none 0 0,.slice none 0 0,.int .i64 0,.int .i64 0,.slice none 0 0,.slice none 0 0,.int .i64 0,.int .i64 0,.int .i64 (zBb i)]) (by simp[results,Tryz.results38,go_sem,aA.1.1,aA.2.1.1,aA.2.2.1.1,aA.2.2.2.1.1,aA.2.2.2.2.1.1,aA.2.2.2.2.2.1.1,aA.2.2.2.2.2.2.1.1,aA.2.2.2.2.2.2.2.1.1,aA.2.2.2.2.2.2.2.2.1]) rfl ⟨some i,dA.out,?_⟩;exact⟨_,_,_,_,rfl,zDv,bB.trans (hT.zRX (B:=w.heap.size) bB.size (fun k e=>by omega))⟩
 | none=>
  unfold zQ7;have lA:=zC w2 (.cells #[.slice none 0 0,.slice none 0 0,.int .i64 0,.int .i64 0,.slice none 0 0,.slice none 0 0,.int .i64 0,.int .i64 0,.nilIface] 81);have HC:=zd (yj.zRZ w2 (.slice none 0 0) (.slice none 0 0) (.int .i64 0) (.int .i64 0) (.slice none 0 0) (.slice none 0 0) (.int .i64 0) (.int .i64 0) (.nilIface) 81);have lB:=zd (bC.out.zRX lA);have pB:=zd (sC.out.zRX lA);have mB:=zd (rC.out.zRX lA);have nA:=zA dC lA;have eC:w2.heap.size<(w2.alloc (.cells #[.slice none 0 0,.slice none 0 0,.int .i64 0,.int .i64 0,.slice none 0 0,.slice none 0 0,.int .i64 0,.int .i64 0,.nilIface] 81)).heap.size:=(by rw[World.size_alloc];omega);obtain⟨-,-,-,-,-,-,-,-,⟨c8,-⟩⟩:=HC.out;obtain⟨⟨x0,-⟩,⟨x1,-⟩,⟨x2,-⟩,⟨x3,-⟩,⟨x4,-⟩,⟨x5,-⟩⟩:=pB.out;go_wp2_with fail;clear c8 x0 x1 x2 x3 x4 x5;generalize w2.alloc (.cells #[.slice none 0 0,.slice none 0 0,.int .i64 0,.int .i64 0,.slice none 0 0,.slice none 0 0,.int .i64 0,.int .i64 0,.nilIface] 81)=W3 at HC lB pB mB nA eC ⊢;generalize gD:w2.heap.size=C at HC eC ⊢;clear lA;refine(zHJ _ _ _ _ lo hi W W3 (Hp.out.zRX nA) b1 b2 b3 b4).mono ?_;rintro e w4 ⟨z0,z1,z2,z3,rfl,ho,oA⟩;obtain⟨l0,jA,l1,gA,l2,kA,l3,iA,rfl,rfl,rfl,rfl⟩:=ho.form;have iC:=zA nA oA;have kD:=oA.size;have oB:=zd (HC.out.zRX oA);have jC:=zd (lB.out.zRX oA);have gC:=zd (mB.out.zRX oA);have Ho:=zd ho;clear ho HC lB pB mB oA;obtain⟨⟨c0,f0⟩,⟨c1,f1⟩,⟨c2,f2⟩,⟨c3,f3⟩,⟨c4,f4⟩,⟨c5,f5⟩,⟨c6,f6⟩,⟨c7,f7⟩,⟨c8,f8⟩⟩:=oB.out;obtain⟨⟨d0,-⟩,⟨d1,-⟩,⟨d2,-⟩,⟨d3,-⟩⟩:=gC.out;have fD:C≠w.heap.size:=(by omega);have nC:w.heap.size≠C:=(by omega);have e0:∀(args:Array Value) (w:World),(callFunc gd args).run Tryz.prog w = .ok (.enter gd args) w:=aD.out;go_wp2_with fail;clear c0 c1 c2 c3 c4 c5 c6 c7 c8 f0 f1 f2 f3 f4 f5 f6 f7 f8 d0 d1 d2 d3 e0;have hT:zF (fun k=>k=C) w4 ((((((w4.setCell ⟨C,0,none⟩ (.slice l0 W.zRd.n jA)).setCell ⟨C,1,none⟩ (.slice l1 W.zRd.hn gA)).setCell ⟨C,2,none⟩ (.int .i64 W.time)).setCell ⟨C,3,none⟩ (.int .i64 W.next)).setCell ⟨C,4,none⟩ (.slice l2 W.sn kA)).setCell ⟨C,5,none⟩ (.slice l3 W.pn iA)):=zF.put6 w4 C (.slice l0 W.zRd.n jA) (.slice l1 W.zRd.hn gA) (.int .i64 W.time) (.int .i64 W.next) (.slice l2 W.sn kA) (.slice l3 W.pn iA);have tB:yj ((((((w4.setCell ⟨C,0,none⟩ (.slice l0 W.zRd.n jA)).setCell ⟨C,1,none⟩ (.slice l1 W.zRd.hn gA)).setCell ⟨C,2,none⟩ (.int .i64 W.time)).setCell ⟨C,3,none⟩ (.int .i64 W.next)).setCell ⟨C,4,none⟩ (.slice l2 W.sn kA)).setCell ⟨C,5,none⟩ (.slice l3 W.pn iA)) C (.slice l0 W.zRd.n jA) (.slice l1 W.zRd.hn gA) (.int .i64 W.time) (.int .i64 W.next) (.slice l2 W.sn kA) (.slice l3 W.pn iA) (.int .i64 0) (.int .i64 0) (.nilIface):=yj.six oB.out (.slice l0 W.zRd.n jA) (.slice l1 W.zRd.hn gA) (.int .i64 W.time) (.int .i64 W.next) (.slice l2 W.sn kA) (.slice l3 W.pn iA);have rB:=jC.out.zRf hT (by omega);have fB:qP ((((((w4.setCell ⟨C,0,none⟩ (.slice l0 W.zRd.n jA)).setCell ⟨C,1,none⟩ (.slice l1 W.zRd.hn gA)).setCell ⟨C,2,none⟩ (.int .i64 W.time)).setCell ⟨C,3,none⟩ (.int .i64 W.next)).setCell ⟨C,4,none⟩ (.slice l2 W.sn kA)).setCell ⟨C,5,none⟩ (.slice l3 W.pn iA)) W3.heap.size w4.heap.size (.slice l0 W.zRd.n jA) (.slice l1 W.zRd.hn gA) (.slice l2 W.sn kA) (.slice l3 W.pn iA) W:=Ho.out.put6 C (.slice l0 W.zRd.n jA) (.slice l1 W.zRd.hn gA) (.int .i64 W.time) (.int .i64 W.next) (.slice l2 W.sn kA) (.slice l3 W.pn iA) (Or.inl (by omega));have kB:=iC.trans (hT.zRX (B:=w.heap.size) iC.size (fun k e=>by omega));have dD:=hT.size;generalize ((((((w4.setCell ⟨C,0,none⟩ (.slice l0 W.zRd.n jA)).setCell ⟨C,1,none⟩ (.slice l1 W.zRd.hn gA)).setCell ⟨C,2,none⟩ (.int .i64 W.time)).setCell ⟨C,3,none⟩ (.int .i64 W.next)).setCell ⟨C,4,none⟩ (.slice l2 W.sn kA)).setCell ⟨C,5,none⟩ (.slice l3 W.pn iA))=W5 at tB rB fB kB dD ⊢;have kC:=zd rB;clear rB hT Ho oB jC gC;have aB:(¬∃i,i<nt/\8000<(tx i).size)/\zAx W/\(¬∃i,i<nn/\¬yI (nx i))/\(∀j,j<m->Q j):=by
   rcases dA.out with⟨_,e⟩ | ⟨_,_,e⟩ | ⟨_,_,_,k,hk,_,_,e⟩ | ⟨h1,h2,h3,h4,e⟩
   ·cases e
   ·cases e
   ·cases e
   ·exact⟨h1,h2,h3,h4⟩
  refine(oC.out C W5 _ _ _ _ (by omega) kB (by omega) aB.2.1 aB.1 aB.2.2.1 aB.2.2.2 (fB.zRc (by omega) (by omega)) tB).mono ?_;rintro e w6 ⟨⟨ve,rfl⟩,fA,jD,vA⟩;have aC:yj w6 (w.heap.size+1+1) (.slice none 0 0) (.slice none 0 0) (.int .i64 0) (.int .i64 0) (.slice none 0 0) (.slice none 0 0) (.int .i64 0) (.int .i64 0) (.int .i64 0):=by
   obtain⟨r0,r1,r2,r3,r4,r5,r6,r7,r8⟩:=kC.out;have bA:w.heap.size+1+1<C:=(by omega);exact⟨r0.under fA bA,r1.under fA bA,r2.under fA bA,r3.under fA bA,r4.under fA bA,r5.under fA bA,r6.under fA bA,r7.under fA bA,r8.under fA bA⟩
  have HR:=zd aC;have dB:Below w.heap.size w w6:=kB.trans (fA.mono (by omega));clear aB tB fB kC aC;rcases vA with⟨mA,z0,z1,z2,z3,sA,nB⟩ | ⟨i,eB,ho,z0,z1,z2,z3,z4,z5,z6,z7,sA⟩;rotate_left
  ·have HC:=zd sA;clear sA;obtain⟨-,-,-,-,-,-,-,-,⟨c8,-⟩⟩:=HC.out;go_wp2_with fail;refine(zIe p i eB _ (HE.out.zRX dB)).mono ?_;rintro e wz ⟨rfl,cB⟩;have bB:=zA dB cB;have rA:=zd (HR.out.zRX cB);clear c8;obtain⟨⟨r0,g0⟩,⟨r1,g1⟩,⟨r2,g2⟩,⟨r3,g3⟩,⟨r4,g4⟩,⟨r5,g5⟩,⟨r6,g6⟩,⟨r7,g7⟩,⟨r8,g8⟩⟩:=rA.out;go_wp2_with fail;have aA:=rA.out.put (.slice none 0 0) (.slice none 0 0) (.int .i64 0) (.int .i64 0) (.slice none 0 0) (.slice none 0 0) (.int .i64 0) (.int .i64 0) (.int .i64 (zBb i));have hT:=zF.put9 wz (w.heap.size+1+1) (.slice none 0 0) (.slice none 0 0) (.int .i64 0) (.int .i64 0) (.slice none 0 0) (.slice none 0 0) (.int .i64 0) (.int .i64 0) (.int .i64 (zBb i));clear r0 r1 r2 r3 r4 r5 r6 r7 r8 g0 g1 g2 g3 g4 g5 g6 g7 g8;refine bodyPost_ret (v:=.agg #[.slice none 0 0,.slice none 0 0,.int .i64 0,.int .i64 0,.slice none 0 0,.slice none 0 0,.int .i64 0,.int .i64 0,.int .i64 (zBb i)]) (by simp[results,Tryz.results38,go_sem,aA.1.1,aA.2.1.1,aA.2.2.1.1,aA.2.2.2.1.1,aA.2.2.2.2.1.1,aA.2.2.2.2.2.1.1,aA.2.2.2.2.2.2.1.1,aA.2.2.2.2.2.2.2.1.1,aA.2.2.2.2.2.2.2.2.1]) rfl ⟨none,dA.out,?_⟩;show zB0 o w _ _;rw[ho];exact⟨_,_,_,_,rfl,zDv,bB.trans (hT.zRX (B:=w.heap.size) bB.size (fun k e=>by omega))⟩
  ·have Ho:=zd nB;obtain⟨n0,iB,n1,jB,n2,gB,n3,vB,rfl,rfl,rfl,rfl⟩:=nB.form;have HC:=zd sA;have pA:=zd mA;clear sA nB mA;obtain⟨⟨c0,-⟩,⟨c1,-⟩,⟨c2,-⟩,⟨c3,-⟩,⟨c4,-⟩,⟨c5,-⟩,⟨c6,-⟩,⟨c7,-⟩,⟨c8,-⟩⟩:=HC.out;obtain⟨⟨r0,g0⟩,⟨r1,g1⟩,⟨r2,g2⟩,⟨r3,g3⟩,⟨r4,g4⟩,⟨r5,g5⟩,⟨r6,g6⟩,⟨r7,g7⟩,⟨r8,g8⟩⟩:=HR.out;have tC:C≠w.heap.size+1+1:=(by omega);have eD:w.heap.size+1+1≠C:=(by omega);go_wp2_with fail;have aA:=HR.out.put (.slice n0 o.world.zRd.n iB) (.slice n1 o.world.zRd.hn jB) (.int .i64 o.world.time) (.int .i64 o.world.next) (.slice n2 o.world.sn gB) (.slice n3 o.world.pn vB) (.int .i64 o.id) (.int .i64 o.zRp) (.int .i64 0);have hT:=zF.put9 w6 (w.heap.size+1+1) (.slice n0 o.world.zRd.n iB) (.slice n1 o.world.zRd.hn jB) (.int .i64 o.world.time) (.int .i64 o.world.next) (.slice n2 o.world.sn gB) (.slice n3 o.world.pn vB) (.int .i64 o.id) (.int .i64 o.zRp) (.int .i64 0);clear r0 r1 r2 r3 r4 r5 r6 r7 r8 g0 g1 g2 g3 g4 g5 g6 g7 g8 c0 c1 c2 c3 c4 c5 c6 c7 c8;refine bodyPost_ret (v:=.agg #[.slice n0 o.world.zRd.n iB,.slice n1 o.world.zRd.hn jB,.int .i64 o.world.time,.int .i64 o.world.next,.slice n2 o.world.sn gB,.slice n3 o.world.pn vB,.int .i64 o.id,.int .i64 o.zRp,.int .i64 0]) (by simp[results,Tryz.results38,go_sem,aA.1.1,aA.2.1.1,aA.2.2.1.1,aA.2.2.2.1.1,aA.2.2.2.2.1.1,aA.2.2.2.2.2.1.1,aA.2.2.2.2.2.2.1.1,aA.2.2.2.2.2.2.2.1.1,aA.2.2.2.2.2.2.2.2.1]) rfl ⟨none,dA.out,?_⟩;show zB0 o w _ _;have bD:=hT.size;exact⟨_,_,_,_,by rw[<-pA.out],(Ho.out.zRf hT (fun k e=>by omega)).zRc (by omega) bD,dB.trans (hT.zRX (B:=w.heap.size) dB.size (fun k e=>by omega))⟩
theorem zEb{j i:Nat}(h:j≠i):(j == i)=false:=by simpa using h
def qX(d:Nat->Nat)(x:Nat->Value):List Nat->Act->Act
 | [],a=>a
 | i :: r,a=>qX d x r (a.put (some (d i)) (x i))
theorem zO1(a:Act)(k:Nat)(u v:Value):(a.put (some k) u).put (some k) v=a.put (some k) v:=by
 unfold Act.put;simp[Array.setIfInBounds_setIfInBounds]
theorem zOE(a:Act){k j:Nat}(u v:Value)(h:k≠j):(a.put (some k) u).put (some j) v=(a.put (some j) v).put (some k) u:=
 Act.put_comm a u v (fun d e e'=>h (by injection e with e;injection e' with e';omega))
theorem zJq(d:Nat->Nat)(x:Nat->Value)(k:Nat)(v:Value):∀(M:List Nat) (a:Act),(∀i∈M,d i≠k)->(qX d x M a).put (some k) v=qX d x M (a.put (some k) v)
 | [],_,_=>rfl
 | i :: r,a,h=>by
  show(qX d x r (a.put (some (d i)) (x i))).put (some k) v=qX d x r ((a.put (some k) v).put (some (d i)) (x i));rw[zJq d x k v r _ (fun j hj=>h j (List.mem_cons_of_mem _ hj)),zOE a _ _ (h i List.mem_cons_self)]
theorem zG0{d:Nat->Nat}{x y:Nat->Value}:∀{M:List Nat} {a:Act},(∀i∈M,x i=y i)->qX d x M a=qX d y M a
 | [],_,_=>rfl
 | i :: r,a,h=>by
  show qX d x r (a.put (some (d i)) (x i))=qX d y r (a.put (some (d i)) (y i));rw[h i List.mem_cons_self];exact zG0 (fun j hj=>h j (List.mem_cons_of_mem _ hj))
def zIo(x:Nat->Value)(i:Nat)(v:Value)(j:Nat):Value:=if j=i then v else x j
theorem zJn(d:Nat->Nat)(x:Nat->Value)(i:Nat)(v:Value):∀(M:List Nat) (a:Act),i∈M->M.Pairwise (fun p q=>d p≠d q)->(qX d x M a).put (some (d i)) v=qX d (zIo x i v) M a
 | [],_,h,_=>by cases h
 | j :: r,a,h,hp=>by
  obtain⟨h1,h2⟩:=List.pairwise_cons.1 hp;show(qX d x r (a.put (some (d j)) (x j))).put (some (d i)) v=qX d (zIo x i v) r (a.put (some (d j)) (zIo x i v j));by_cases e:j=i
  ·subst e;have aA:∀p∈r,d p≠d j:=fun p hp e=>h1 p hp e.symm
   rw[zJq d x (d j) v r _ aA,zO1];have e1:zIo x j v j=v:=(by unfold zIo;rw[if_pos rfl]);rw[e1];refine zG0 (fun p hp=>?_);unfold zIo;rw[if_neg (fun e=>aA p hp (by rw[e]))]
  ·have e1:zIo x i v j=x j:=(by unfold zIo;rw[if_neg e]);rw[e1];rcases List.mem_cons.1 h with h | h
   ·exact absurd h.symm e
   ·exact zJn d x i v r _ h h2
def zAz(b:Nat->Bool):List Nat->Array Bool->Array Bool
 | [],l=>l
 | i :: r,l=>zAz b r (if b i then l.setIfInBounds i true else l)
def zBv(b:Nat->Bool)(i:Nat)(j:Nat):Bool:=j == i || b j
theorem zGS(b:Nat->Bool)(k:Nat):∀(M:List Nat) (l:Array Bool),(zAz b M l).setIfInBounds k true=zAz b M (l.setIfInBounds k true)
 | [],_=>rfl
 | i :: r,l=>by
  show(zAz b r (if b i then l.setIfInBounds i true else l)).setIfInBounds k true=zAz b r (if b i then(l.setIfInBounds k true).setIfInBounds i true else l.setIfInBounds k true);rw[zGS b k r];by_cases h:b i
  ·rw[if_pos h,if_pos h];by_cases e:i=k
   ·subst e;rfl
   ·rw[Array.setIfInBounds_comm _ _ e]
  ·rw[if_neg h,if_neg h]
theorem zCA{b c:Nat->Bool}:∀{M:List Nat} {l:Array Bool},(∀i∈M,b i=c i)->zAz b M l=zAz c M l
 | [],_,_=>rfl
 | i :: r,l,h=>by
  show zAz b r (if b i then _ else _)=zAz c r (if c i then _ else _);rw[h i List.mem_cons_self];exact zCA (fun j hj=>h j (List.mem_cons_of_mem _ hj))
theorem zFh(b:Nat->Bool)(k:Nat):∀(M:List Nat) (l:Array Bool),k∈M->(zAz b M l).setIfInBounds k true=zAz (zBv b k) M l
 | [],_,h=>by cases h
 | i :: r,l,h=>by
  show(zAz b r (if b i then l.setIfInBounds i true else l)).setIfInBounds k true=zAz (zBv b k) r (if zBv b k i then l.setIfInBounds i true else l);by_cases e:i=k
  ·subst e;have e1:zBv b i i=true:=(by unfold zBv;simp);rw[if_pos e1,zGS];have e2:(if b i then l.setIfInBounds i true else l).setIfInBounds i true=l.setIfInBounds i true:=by
    by_cases h':b i
    ·rw[if_pos h',Array.setIfInBounds_setIfInBounds]
    ·rw[if_neg h']
   rw[e2];by_cases hr:i∈r
   ·rw[<-zFh b i r _ hr,zGS,Array.setIfInBounds_setIfInBounds]
   ·refine zCA (fun j hj=>?_);unfold zBv;have:(j == i)=false:=zEb fun e=>hr (e▸hj)
    rw[this,Bool.false_or]
  ·have e1:zBv b k i=b i:=by
    unfold zBv;have:(i == k)=false:=zEb e;rw[this,Bool.false_or]
   rw[e1];rcases List.mem_cons.1 h with h | h
   ·exact absurd h.symm e
   ·exact zFh b k r _ h
def zM5:List Nat->List (Nat->Bool)
 | []=>[fun _=>false]
 | i :: r=>(zM5 r).flatMap fun b=>[b,zBv b i]
theorem zHx(c:Nat->Bool):∀M:List Nat,M.Nodup->∃b∈zM5 M,(∀i∈M,b i=c i)/\∀i,i∉M->b i=false
 | [],_=>⟨_,List.mem_singleton.2 rfl,fun i h=>(by cases h),fun _ _=>rfl⟩
 | i :: r,hn=>by
  obtain⟨h1,h2⟩:=List.nodup_cons.1 hn;obtain⟨b,hb,hc,ho⟩:=zHx c r h2;by_cases e:c i
  ·refine⟨zBv b i,List.mem_flatMap.2 ⟨b,hb,by simp⟩,fun j hj=>?_,fun j hj=>?_⟩
   ·unfold zBv;rcases List.mem_cons.1 hj with rfl | hj
    ·simp[e]
    ·have:(j == i)=false:=zEb fun e=>h1 (e▸hj)
     rw[this,Bool.false_or];exact hc j hj
   ·unfold zBv;have h3:(j == i)=false:=zEb fun e=>hj (e▸List.mem_cons_self)
    rw[h3,Bool.false_or];exact ho j (fun h=>hj (List.mem_cons_of_mem _ h))
  ·refine⟨b,List.mem_flatMap.2 ⟨b,hb,by simp⟩,fun j hj=>?_,fun j hj=>?_⟩
   ·rcases List.mem_cons.1 hj with rfl | hj
    ·rw[ho j h1];simpa using e
    ·exact hc j hj
   ·exact ho j (fun h=>hj (List.mem_cons_of_mem _ h))
theorem zJF(b:Nat->Bool)(i:Nat):∀M:List Nat,M.Nodup->i∈M->b i=false->(M.countP fun j=>!b j)=(M.countP fun j=>!zBv b i j)+1
 | [],_,h,_=>by cases h
 | j :: r,hn,h,hbi=>by
  obtain⟨g1,g2⟩:=List.nodup_cons.1 hn;rw[List.countP_cons,List.countP_cons];rcases List.mem_cons.1 h with e | aA
  ·subst e;have e1:(r.countP fun j=>!b j)=r.countP fun j=>!zBv b i j:=by
    refine List.countP_congr fun p hp=>?_
    unfold zBv;have:(p == i)=false:=zEb fun e=>g1 (e▸hp)
    rw[this,Bool.false_or]
   have e2:zBv b i i=true:=(by unfold zBv;simp);rw[e1,hbi,e2];simp
  ·have bA:(j == i)=false:=zEb fun e=>g1 (e▸aA)
   have e2:zBv b i j=b j:=(by unfold zBv;rw[bA,Bool.false_or]);have h3:=zJF b i r g2 aA hbi;rw[e2];omega
def zKG(md:Region.Mode)(ops:Array Oper)(M:List Nat)(D:Nat->List Nat)(l0:Array Bool):Bool:=
 (zM5 M).all fun b=>!(M.all fun i=>!b i || (D i).all b) || (M.all b || (!(Region.ready md ops (zAz b M l0)).isEmpty && (Region.ready md ops (zAz b M l0)).all fun i=>M.contains i && !b i && (D i).all b))
section
variable {P : Program} {md : Region.Mode} {ops : Array Oper} {Q : Exit -> Act -> World -> Prop} {S G : World -> Prop}
theorem zOD{M:List Nat}{D:Nat->List Nat}{d:Nat->Nat}{F:Nat->Value->World->Prop}{l0:Array Bool}{a0:Act}{dA:Nat}
  (jA:zKG md ops M D l0=true) (hn:M.Nodup) (hd:M.Pairwise (fun p q=>d p≠d q)) (gA:∀i∈M,∀j∈D i,j∈M)
  (hF:∀i v w w',F i v w->Below w.heap.size w w'->F i v w') (hG:∀w w',G w->Below w.heap.size w w'->G w')
  (eA:∀i∈M,∀x w,S w->G w->(∀j∈D i,F j (x j) w)->∀K:Act->World->Prop,Shut (∀a' v w',a'=(qX d x M a0).put (some (d i)) v->S w'->F i v w'->Below w.heap.size w w'->K a' w')->wpOp P ops Q i K (qX d x M a0) w)
  (lA:∀x w,S w->G w->(∀i∈M,F i (x i) w)->wpAnyH P md ops Q S dA (zAz (fun _=>true) M l0) (qX d x M a0) w) :
  ∀(n:Nat) (b:Nat->Bool),(M.countP fun i=>!b i)=n->(∀i∈M,b i=true->∀j∈D i,b j=true)->∀x w,S w->G w->(∀i∈M,b i=true->F i (x i) w)->wpAnyH P md ops Q S (dA+n) (zAz b M l0) (qX d x M a0) w:=by
 intro n
 induction n with
 | zero=>
  intro b hc hb x w hS hg hf;have fA:∀i∈M,b i=true:=fun i hi=>by
   have:=(List.countP_eq_zero.1 hc) i hi;simpa using this
  rw[zCA (c:=fun _=>true) fA];exact lA x w hS hg (fun i hi=>hf i hi (fA i hi))
 | succ n ih=>
  intro b hc hb x w hS hg hf;obtain⟨c,vA,bA,aB⟩:=zHx b M hn;have hk:=List.all_eq_true.1 jA c vA;have sA:(M.all fun i=>!c i || (D i).all c)=true:=List.all_eq_true.2 fun i hi=>by
   rw[bA i hi];by_cases e:b i=true
   ·have:(D i).all c=true:=List.all_eq_true.2 fun j hj=>by rw[bA j (gA i hi j hj)];exact hb i hi e j hj
    rw[this];simp
   ·have:b i=false:=(by simpa using e);rw[this];rfl
  have pA:(M.all c)=false:=by
   cases h:M.all c with
   | false=>rfl
   | true=>
    have h0:(M.countP fun i=>!b i)=0:=List.countP_eq_zero.2 fun i hi=>by rw[<-bA i hi,List.all_eq_true.1 h i hi];simp
    omega
  rw[sA,pA]at hk;simp only[Bool.not_true,Bool.false_or,Bool.and_eq_true]at hk;rw[zCA (c:=c) (fun i hi=>(bA i hi).symm)];refine⟨fun h0=>?_,fun i hi=>?_⟩
  ·rw[h0]at hk;simp at hk
  ·have hq:=List.all_eq_true.1 hk.2 i hi;simp only[Bool.and_eq_true,Bool.not_eq_true']at hq;have aA:i∈M:=(by simpa using hq.1.1);have rA:b i=false:=(by rw[<-bA i aA];exact hq.1.2);have oA:∀j∈D i,b j=true:=fun j hj=>by rw[<-bA j (gA i aA j hj)];exact List.all_eq_true.1 hq.2 j hj
   refine eA i aA x w hS hg (fun j hj=>hf j (gA i aA j hj) (oA j hj)) _ ?_;intro a' v w' ha nA tA mA;refine⟨nA,?_⟩;rw[ha,zJn d x i v M a0 aA hd,zFh c i M l0 aA];have iA:∀j∈M,zBv c i j=zBv b i j:=fun j hj=>by unfold zBv;rw[bA j hj]
   rw[zCA (c:=zBv b i) iA];refine ih (zBv b i) ?_ ?_ (zIo x i v) w' nA (hG w w' hg mA) ?_
   ·have h1:(M.countP fun j=>!b j)=(M.countP fun j=>!zBv b i j)+1:=zJF b i M hn aA rA;omega
   ·intro p hp cA j hj;unfold zBv at cA ⊢;by_cases e:p=i
    ·subst e;rw[oA j hj];simp
    ·have kA:(p == i)=false:=zEb e;rw[kA,Bool.false_or]at cA;rw[hb p hp cA j hj];simp
   ·intro p hp cA;unfold zIo;by_cases e:p=i
    ·subst e;rw[if_pos rfl];exact tA
    ·rw[if_neg e];unfold zBv at cA;have kA:(p == i)=false:=zEb e;rw[kA,Bool.false_or]at cA;exact hF p _ w w' (hf p hp cA) mA
theorem zPd{M:List Nat}{D:Nat->List Nat}{d:Nat->Nat}{F:Nat->Value->World->Prop}{l0:Array Bool}{a0:Act}{bA:Nat}(x0:Nat->Value)
  (dA:zKG md ops M D l0=true) (hn:M.Nodup) (hd:M.Pairwise (fun p q=>d p≠d q)) (eA:∀i∈M,∀j∈D i,j∈M)
  (hF:∀i v w w',F i v w->Below w.heap.size w w'->F i v w') (hG:∀w w',G w->Below w.heap.size w w'->G w')
  (aA:∀i∈M,∀x w,S w->G w->(∀j∈D i,F j (x j) w)->∀K:Act->World->Prop,Shut (∀a' v w',a'=(qX d x M a0).put (some (d i)) v->S w'->F i v w'->Below w.heap.size w w'->K a' w')->wpOp P ops Q i K (qX d x M a0) w)
  (cA:∀x w,S w->G w->(∀i∈M,F i (x i) w)->wpAnyH P md ops Q S bA (zAz (fun _=>true) M l0) (qX d x M a0) w)
  {a:Act} {w:World} {f:Nat} (ha:a=qX d x0 M a0) (hf:f=bA+M.length) (hS:S w) (hg:G w):wpAnyH P md ops Q S f l0 a w:=by
 subst ha hf;have e0:zAz (fun _=>false) M l0=l0:=by
  clear dA hn hd eA aA cA
  induction M with
  | nil=>rfl
  | cons i r ih=>exact ih
 have:=zOD (P:=P) (Q:=Q) dA hn hd eA hF hG aA cA M.length (fun _=>false) (by simp[List.countP_true]) (fun i hi h=>by cases h) x0 w hS hg (fun i hi h=>by cases h)
 rwa [e0]at this
theorem zPO(a:Act)(k:Nat):a.put (some k) (a.tmps.getD k undef)=a:=by
 unfold Act.put;have:a.tmps.setIfInBounds k (a.tmps.getD k undef)=a.tmps:=by
  refine Array.ext_getElem? fun j=>?_
  rw[Array.getElem?_setIfInBounds];by_cases e:k=j
  ·subst e;by_cases h:k<a.tmps.size
   ·simp[h,Array.getD]
   ·simp[h]
  ·simp[e]
 cases a;simp only[this]
theorem zHi(d:Nat->Nat)(a:Act):∀M:List Nat,qX d (fun i=>a.tmps.getD (d i) undef) M a=a
 | []=>rfl
 | i :: r=>by
  show qX d _ r (a.put (some (d i)) (a.tmps.getD (d i) undef))=a;rw[zPO];exact zHi d a r
theorem zJG(M:List Nat)(D:Nat->List Nat)(d:Nat->Nat)(F:Nat->Value->World->Prop)(bA:Nat){l0:Array Bool}{a:Act}{w:World}
  (dA:zKG md ops M D l0=true) (hn:M.Nodup) (hd:M.Pairwise (fun p q=>d p≠d q)) (eA:∀i∈M,∀j∈D i,j∈M)
  (hF:∀i v w w',F i v w->Below w.heap.size w w'->F i v w') (hG:∀w w',G w->Below w.heap.size w w'->G w') (hS:S w) (hg:G w)
  (aA:∀i∈M,∀x w,S w->G w->(∀j∈D i,F j (x j) w)->∀K:Act->World->Prop,Shut (∀a' v w',a'=(qX d x M a).put (some (d i)) v->S w'->F i v w'->Below w.heap.size w w'->K a' w')->wpOp P ops Q i K (qX d x M a) w)
  (cA:∀x w,S w->G w->(∀i∈M,F i (x i) w)->wpAnyH P md ops Q S bA (zAz (fun _=>true) M l0) (qX d x M a) w):wpAnyH P md ops Q S (bA+M.length) l0 a w:=
 zPd (fun i=>a.tmps.getD (d i) undef) dA hn hd eA hF hG aA cA (zHi d a M).symm rfl hS hg
end
def zCh(w:World)(lb:Array Value)(caps:List Value):Prop:=lb.size=caps.length/\∀(k:Nat) (u:Value),caps[k]?=some u->∃B,lb[k]?=some (.pointer (some ⟨B,0,none⟩))/\w.cell? ⟨B,0,none⟩=some u
theorem zCh.zRX{w w':World}{lb:Array Value}{caps:List Value}(h:zCh w lb caps)(t:Below w.heap.size w w'):zCh w' lb caps:=
 ⟨h.1,fun k u hk=>by
  obtain⟨B,h1,h2⟩:=h.2 k u hk;exact⟨B,h1,(t.cell (zD h2)).trans h2⟩⟩
theorem zCh.one{w:World}{B:Nat}{u:Value}(h:w.cell? ⟨B,0,none⟩=some u):zCh w #[.pointer (some ⟨B,0,none⟩)] [u]:=
 ⟨rfl,fun k x hk=>by
  match k,hk with
  | 0,hk=>simp at hk;subst hk;exact⟨B,rfl,h⟩
  | k+1,hk=>simp at hk⟩
theorem zCh.is1{w:World}{lb:Array Value}{u:Value}(h:zCh w lb [u]):∃B,lb=#[.pointer (some ⟨B,0,none⟩)]/\w.cell? ⟨B,0,none⟩=some u:=by
 obtain⟨B,h1,h2⟩:=h.2 0 u rfl;refine⟨B,?_,h2⟩;have hs:=h.1;obtain⟨l⟩:=lb
 match l,hs,h1 with
 | [x],_,h1=>simp at h1;rw[h1]
def QAt(w:World)(p:Nat->Addr)(g i:Nat)(caps:List Value)(v:Value):Prop:=∃lb,v = .agg #[.func (.func g) #[] lb,qM (p i)]/\zCh w lb caps
theorem QAt.zRX{w w':World}{p:Nat->Addr}{g i:Nat}{caps:List Value}{v:Value}(h:QAt w p g i caps v)(t:Below w.heap.size w w'):QAt w' p g i caps v:=by
 obtain⟨lb,hv,hc⟩:=h;exact⟨lb,hv,hc.zRX t⟩
theorem zOk{w:World}{s u:ByteArray}{t:TypeId}{f:Nat->ByteArray}(hs:s.size<=maxLen)(hu:u.size<=maxLen)(h0:f 0=s)(h1:f 1=u):zAK (w.alloc (.cells #[.string s,.string u] t)) (.slice (some ⟨w.heap.size,0,none⟩) 2 2) 2 f:=by
 refine⟨by omega,_,_,rfl,fun i hi=>?_,fun _=>⟨_,_,rfl,fun i hi=>?_⟩⟩
 ·rcases(by omega:i=0\/i=1)with rfl | rfl
  ·rw[h0];exact hs
  ·rw[h1];exact hu
 ·rcases(by omega:i=0\/i=1)with rfl | rfl
  ·rw[h0];exact World.cell?_alloc_at _ _ _ _ rfl
  ·rw[h1];exact World.cell?_alloc_at _ _ _ _ rfl
def zGZ(w:World)(p:Nat->Addr)(m:Nat)(g ei:Nat->Nat)(caps:Nat->List Value)(v:Value):Prop:=∃lb:Nat->Array Value,zDC w p v m g lb ei/\∀k,k<m->zCh w (lb k) (caps k)
theorem zGZ.zRX{w w':World}{p:Nat->Addr}{m:Nat}{g ei:Nat->Nat}{caps:Nat->List Value}{v:Value}(h:zGZ w p m g ei caps v)(t:Below w.heap.size w w'):zGZ w' p m g ei caps v:=by
 obtain⟨lb,h1,h2⟩:=h;exact⟨lb,h1.zRX t,fun k hk=>(h2 k hk).zRX t⟩
theorem zQt{w:World}{p:Nat->Addr}{g ei:Nat->Nat}{caps:Nat->List Value}{aA:Array Value}{t:TypeId}(h0:zCh w aA (caps 0)):zGZ (w.alloc (.cells #[.func (.func (g 0)) #[] aA,qM (p (ei 0))] t)) p 1 g ei caps (.slice (some ⟨w.heap.size,0,none⟩) 1 1):=by
 have bA:=zC w (.cells #[.func (.func (g 0)) #[] aA,qM (p (ei 0))] t);refine⟨(fun i=>match i with  | _=>aA),⟨by omega,_,_,rfl,fun _=>⟨_,_,rfl,fun i hi=>?_⟩⟩,fun i hi=>?_⟩
 ·obtain rfl:i=0:=(by omega);exact⟨World.cell?_alloc_at _ _ _ _ rfl,World.cell?_alloc_at _ _ _ _ rfl⟩
 ·obtain rfl:i=0:=(by omega);exact h0.zRX bA
theorem zM7(v0 v1 v2 v3:Value)(lo hi:Nat)(W:zH)(name:ByteArray)(w:World)(h:zk w lo hi v0 v1 v2 v3 W)(mA:W.sn<=8)(nA:name.size<=maxLen) :
  Calls Tryz.prog 92 #[zz v0 v1 v2 v3 W,.string name] w fun e w'=>zG (zAU W name) e/\Below w.heap.size w w':=by
 have Hp:=zB h;clear h;have ha:=zC w (.cells #[v0,v1,.int .i64 W.time,.int .i64 W.next,v2,v3] 37);obtain⟨⟨x0,-⟩,⟨x1,-⟩,⟨x2,-⟩,⟨x3,-⟩,⟨x4,-⟩,⟨x5,-⟩⟩:=zi.zRZ w (v0) (v1) (.int .i64 W.time) (.int .i64 W.next) (v2) (v3) 37;go_enter Tryz.func92,Tryz.ntmps92;go_wp2_with fail;clear x0 x1 x2 x3 x4 x5;generalize w.alloc (.cells #[v0,v1,.int .i64 W.time,.int .i64 W.next,v2,v3] 37)=W0 at ha ⊢;refine(zEE v0 v1 v2 v3 lo hi W W0 (Hp.out.zRX ha) mA).mono ?_;rintro e w1 ⟨vd,rfl,dA,lA,fA⟩;have jA:∀i,i<W.sn->∃a n c,vd i = .slice a n c:=fun i hi'=>by
  obtain⟨_,aa,cc,hv,_⟩:=lA i hi';exact⟨aa,_,cc,hv⟩
 obtain⟨s0,i1,i2,i3,i4,sa,sn,sc,iA⟩:=zJr jA name;have kA:=zB iA;have cA:=zB (zMN (W:=W) (vd:=vd));have eA:=zB dA;have bA:=zB (zKY nA);have gA:=zA ha fA;clear dA lA jA fA ha iA;obtain⟨M,hM⟩:∃M,M=W0.heap.size+1:=⟨_,rfl⟩;rw[<-hM]at eA ⊢;clear hM;by_cases aA:zAU W name
 ·skip;have Hc:=zB (show Maps.has (putD (fun i=>zC3 (W.zRg i).name) (fun i=>zDZ (vd i) (W.zRg i)) W.sn) (zC3 name)=true from(cA.out name).2 aA);have Hn:=zB aA;clear aA;go_wp2_with (first
   | (at_lookup;refine zAE _ rfl _ _ 177 rfl 9 67 zOu zL9 (zF8 _) M W.sn _ rfl eA.out _ _ rfl bA.out _ kA.out true Hc.out ?_)
   | go_in)
  go_ret;exact⟨zG.yes Hn.out,zA gA (zC w1 (.cells #[.string s0,.int .i64 i1,.int .i64 i2,.int .i64 i3,.int .i64 i4,.slice sa sn sc] 67))⟩
 ·skip;have Hc:=zB (show Maps.has (putD (fun i=>zC3 (W.zRg i).name) (fun i=>zDZ (vd i) (W.zRg i)) W.sn) (zC3 name)=false from by rw[Bool.eq_false_iff];exact fun h=>aA ((cA.out name).1 h));have Hn:=zB aA;clear aA;go_wp2_with (first
   | (at_lookup;refine zAE _ rfl _ _ 177 rfl 9 67 zOu zL9 (zF8 _) M W.sn _ rfl eA.out _ _ rfl bA.out _ kA.out false Hc.out ?_)
   | go_in)
  go_ret;exact⟨zG.no Hn.out,zA gA (zC w1 (.cells #[.string s0,.int .i64 i1,.int .i64 i2,.int .i64 i3,.int .i64 i4,.slice sa sn sc] 67))⟩
theorem zJB(v0 v1 v2 v3:Value)(lo hi:Nat)(W:zH)(B:Nat)(name:ByteArray)(w:World)(h:zk w lo hi v0 v1 v2 v3 W)(cA:W.sn<=8)(dA:name.size<=maxLen)(hc:w.cell? ⟨B,0,none⟩=some (.string name)) :
  Calls Tryz.prog 91 #[zz v0 v1 v2 v3 W,.pointer (some ⟨B,0,none⟩)] w fun e w'=>zG (zAU W name) e/\Below w.heap.size w w':=by
 have Hp:=zB h;clear h;have ha:=zC w (.cells #[v0,v1,.int .i64 W.time,.int .i64 W.next,v2,v3] 37);have eA:=(ha.cell (zD hc)).trans hc;obtain⟨⟨x0,-⟩,⟨x1,-⟩,⟨x2,-⟩,⟨x3,-⟩,⟨x4,-⟩,⟨x5,-⟩⟩:=zi.zRZ w (v0) (v1) (.int .i64 W.time) (.int .i64 W.next) (v2) (v3) 37;go_enter Tryz.func91,Tryz.ntmps91;go_wp2_with fail;clear x0 x1 x2 x3 x4 x5 hc eA;generalize w.alloc (.cells #[v0,v1,.int .i64 W.time,.int .i64 W.next,v2,v3] 37)=W0 at ha ⊢;refine(zM7 v0 v1 v2 v3 lo hi W name W0 (Hp.out.zRX ha) cA dA).mono ?_;rintro e w1 ⟨⟨t,rfl,ht⟩,bA⟩;have aA:=zA ha bA;by_cases hf:zAU W name
 ·obtain rfl:t=true:=ht.2 hf;have HF:=zB hf;clear ht hf;go_wp2;go_ret;exact⟨zG.yes HF.out,aA⟩
 ·obtain rfl:t=false:=zQ ht hf;have HF:=zB hf;clear ht hf;go_wp2;go_ret;exact⟨zG.no HF.out,aA⟩
theorem zKS(p:Nat->Addr)(s0:ByteArray)(w:World)(hE:zE2 w p) :
  Calls Tryz.prog 33 #[.string s0] w fun e w'=>∃B0:Nat,e = .returned (.agg #[.func (.func 91) #[] #[.pointer (some ⟨B0,0,none⟩)],qM (p 2)])/\w'.cell? ⟨B0,0,none⟩=some (.string s0)/\Below w.heap.size w w':=by
 have bA:=zC w (.cells #[.string s0] 9);have eA:=zC (w.alloc (.cells #[.string s0] 9)) (.cells #[.nilFunc,.nilIface] 75);have hb:=zA (bA) eA;have c0:(w.alloc (.cells #[.string s0] 9)).cell? ⟨w.heap.size,0,none⟩=some (.string s0):=World.cell?_alloc_at _ _ _ _ rfl;have hg:((w.alloc (.cells #[.string s0] 9)).alloc (.cells #[.nilFunc,.nilIface] 75)).cell? ⟨0,0,none⟩=some (qM (p 2)):=(hE.zRX hb).cell 2 (by omega);have cA:=zC (w.alloc (.cells #[.string s0] 9)) (.cells #[.func (.func 91) #[] #[.pointer (some ⟨w.heap.size,0,none⟩)],qM (p 2)] 75);have dA:=zA (bA) cA;have fA:=zB ((cA.cell (zD c0)).trans c0);clear c0;go_enter Tryz.func33,Tryz.ntmps33;have gA:=fun (ww:World) (a:Addr)=>run_store Tryz.prog ww a (.func (.func 91) #[] #[.pointer (some ⟨w.heap.size,0,none⟩)]) .plain rfl
 go_wp2_with fail;have aA:=zc.zRZ (w.alloc (.cells #[.string s0] 9)) (.func (.func 91) #[] #[.pointer (some ⟨w.heap.size,0,none⟩)]) (qM (p 2)) 75;rw[World.size_alloc]at aA;refine bodyPost_ret (v:=.agg #[.func (.func 91) #[] #[.pointer (some ⟨w.heap.size,0,none⟩)],qM (p 2)]) (by simp[results,Tryz.results33,go_sem,aA.1.1,aA.2.1]) rfl ⟨_,rfl,fA.out,dA⟩
theorem zD9(p:Nat->Addr)(v0 v1 v2 v3:Value)(lo hi:Nat)(W:zH)(name:ByteArray)(zRj:Int)(data:ByteArray)(o:zB9)(w:World)(hE:zE2 w p)(h:zk w lo hi v0 v1 v2 v3 W)(oB:zCS W)(b1:qC W.zRd<=1048576)(b2:W.sn<=1048576)(b3:W.pn<=1048576)(b4:zDj W)(iA:name.size<=maxLen)(gA:(Lit.int .i64 zRj).wf=true)(cB:data.size<=maxLen)
  (pB:∀B0 B1 B2 C w' z0 z1 z2 z3,w'.cell? ⟨B0,0,none⟩=some (.string name)->B0<C->w'.cell? ⟨B1,0,none⟩=some (.int .i64 zRj)->B1<C->w'.cell? ⟨B2,0,none⟩=some (.string data)->B2<C->zAx W->¬(∃i,i<2/\8000<((fun i=>match i with | 0=>name | _=>data) i).size)->¬(∃i,i<0/\¬yI ((fun _=>⟨#[]⟩) i))->(∀j,j<1->(fun i=>match i with  | _=>zAU W name) j)->C<w'.heap.size->Below w.heap.size w w'->qP w' (C+1) w'.heap.size z0 z1 z2 z3 W->yj w' C z0 z1 (.int .i64 W.time) (.int .i64 W.next) z2 z3 (.int .i64 0) (.int .i64 0) .nilIface->Calls Tryz.prog 34 #[.pointer (some ⟨C,0,none⟩),.pointer (some ⟨B0,0,none⟩),.pointer (some ⟨B1,0,none⟩),.pointer (some ⟨B2,0,none⟩)] w' (zLw p o C w')) :
  Calls Tryz.prog 10 #[zz v0 v1 v2 v3 W,.string name,.int .i64 zRj,.string data] w fun e w'=>∃r,zId W (∃i,i<2/\8000<((fun i=>match i with | 0=>name | _=>data) i).size) (∃i,i<0/\¬yI ((fun _=>⟨#[]⟩) i)) 1 (fun i=>match i with  | _=>zAU W name) (fun i=>match i with  | _=>2) r/\zB0 (zMe r o) w e w':=by
 have Hp:=zd h;have HE:=zd hE;have gC:=zd pB;have jC:=zd oB;have dA:=zd iA;have eA:=zd cB;have sA:=zd gA;clear gA;clear h hE pB oB;have sB:=zC w (.cells #[v0,v1,.int .i64 W.time,.int .i64 W.next,v2,v3] 37);have nB:=zC (w.alloc (.cells #[v0,v1,.int .i64 W.time,.int .i64 W.next,v2,v3] 37)) (.cells #[.string name] 9);have dB:=zC ((w.alloc (.cells #[v0,v1,.int .i64 W.time,.int .i64 W.next,v2,v3] 37)).alloc (.cells #[.string name] 9)) (.cells #[.int .i64 zRj] 2);have tA:=zC (((w.alloc (.cells #[v0,v1,.int .i64 W.time,.int .i64 W.next,v2,v3] 37)).alloc (.cells #[.string name] 9)).alloc (.cells #[.int .i64 zRj] 2)) (.cells #[.string data] 9);have nA:=zC ((((w.alloc (.cells #[v0,v1,.int .i64 W.time,.int .i64 W.next,v2,v3] 37)).alloc (.cells #[.string name] 9)).alloc (.cells #[.int .i64 zRj] 2)).alloc (.cells #[.string data] 9)) (.cells #[.slice none 0 0,.slice none 0 0,.int .i64 0,.int .i64 0,.slice none 0 0,.slice none 0 0,.int .i64 0,.int .i64 0,.int .i64 0] 39);have hb:=zA (zA (zA (zA (sB) nB) dB) tA) nA;have HX:=zd (((((zi.zRZ w (v0) (v1) (.int .i64 W.time) (.int .i64 W.next) (v2) (v3) 37).zRX nB).zRX dB).zRX tA).zRX nA);have c0:((w.alloc (.cells #[v0,v1,.int .i64 W.time,.int .i64 W.next,v2,v3] 37)).alloc (.cells #[.string name] 9)).cell? ⟨(w.alloc (.cells #[v0,v1,.int .i64 W.time,.int .i64 W.next,v2,v3] 37)).heap.size,0,none⟩=some (.string name):=World.cell?_alloc_at _ _ _ _ rfl;rw[World.size_alloc]at c0;replace c0:=(dB.cell (zD c0)).trans c0;replace c0:=(tA.cell (zD c0)).trans c0;replace c0:=(nA.cell (zD c0)).trans c0;have aC:=zd c0;clear c0;have c1:(((w.alloc (.cells #[v0,v1,.int .i64 W.time,.int .i64 W.next,v2,v3] 37)).alloc (.cells #[.string name] 9)).alloc (.cells #[.int .i64 zRj] 2)).cell? ⟨((w.alloc (.cells #[v0,v1,.int .i64 W.time,.int .i64 W.next,v2,v3] 37)).alloc (.cells #[.string name] 9)).heap.size,0,none⟩=some (.int .i64 zRj):=World.cell?_alloc_at _ _ _ _ rfl;rw[World.size_alloc,World.size_alloc]at c1;replace c1:=(tA.cell (zD c1)).trans c1;replace c1:=(nA.cell (zD c1)).trans c1;have bC:=zd c1;clear c1;have c2:((((w.alloc (.cells #[v0,v1,.int .i64 W.time,.int .i64 W.next,v2,v3] 37)).alloc (.cells #[.string name] 9)).alloc (.cells #[.int .i64 zRj] 2)).alloc (.cells #[.string data] 9)).cell? ⟨(((w.alloc (.cells #[v0,v1,.int .i64 W.time,.int .i64 W.next,v2,v3] 37)).alloc (.cells #[.string name] 9)).alloc (.cells #[.int .i64 zRj] 2)).heap.size,0,none⟩=some (.string data):=World.cell?_alloc_at _ _ _ _ rfl;rw[World.size_alloc,World.size_alloc,World.size_alloc]at c2;replace c2:=(nA.cell (zD c2)).trans c2;have dC:=zd c2;clear c2;have hr:=yj.zRZ ((((w.alloc (.cells #[v0,v1,.int .i64 W.time,.int .i64 W.next,v2,v3] 37)).alloc (.cells #[.string name] 9)).alloc (.cells #[.int .i64 zRj] 2)).alloc (.cells #[.string data] 9)) (.slice none 0 0) (.slice none 0 0) (.int .i64 0) (.int .i64 0) (.slice none 0 0) (.slice none 0 0) (.int .i64 0) (.int .i64 0) (.int .i64 0) 39;rw[World.size_alloc,World.size_alloc,World.size_alloc,World.size_alloc]at hr;have HR:=zd hr;clear hr;have hz:(((((w.alloc (.cells #[v0,v1,.int .i64 W.time,.int .i64 W.next,v2,v3] 37)).alloc (.cells #[.string name] 9)).alloc (.cells #[.int .i64 zRj] 2)).alloc (.cells #[.string data] 9)).alloc (.cells #[.slice none 0 0,.slice none 0 0,.int .i64 0,.int .i64 0,.slice none 0 0,.slice none 0 0,.int .i64 0,.int .i64 0,.int .i64 0] 39)).heap.size=w.heap.size+5:=by rw[World.size_alloc,World.size_alloc,World.size_alloc,World.size_alloc,World.size_alloc]
 go_enter Tryz.func10,Tryz.ntmps10;go_upto_region 1 with fail;generalize (((((w.alloc (.cells #[v0,v1,.int .i64 W.time,.int .i64 W.next,v2,v3] 37)).alloc (.cells #[.string name] 9)).alloc (.cells #[.int .i64 zRj] 2)).alloc (.cells #[.string data] 9)).alloc (.cells #[.slice none 0 0,.slice none 0 0,.int .i64 0,.int .i64 0,.slice none 0 0,.slice none 0 0,.int .i64 0,.int .i64 0,.int .i64 0] 39))=W1 at hb HX HR hz aC bC dC ⊢;clear sB nB dB tA nA;obtain⟨⟨x0,-⟩,⟨x1,-⟩,⟨x2,-⟩,⟨x3,-⟩,⟨x4,-⟩,⟨x5,-⟩⟩:=HX.out;have k0:=aC.out;have k1:=bC.out;have k2:=dC.out;have aA:=zd (show ∀w',Below (w.heap.size+1+1+1+1) W1 w'->(fun w'=>w'.cell? ⟨w.heap.size,0,none⟩=some (v0)/\w'.cell? ⟨w.heap.size,1,none⟩=some (v1)/\w'.cell? ⟨w.heap.size,2,none⟩=some (.int .i64 W.time)/\w'.cell? ⟨w.heap.size,3,none⟩=some (.int .i64 W.next)/\w'.cell? ⟨w.heap.size,4,none⟩=some (v2)/\w'.cell? ⟨w.heap.size,5,none⟩=some (v3)/\w'.cell? ⟨w.heap.size+1,0,none⟩=some (.string name)/\w'.cell? ⟨w.heap.size+1+1,0,none⟩=some (.int .i64 zRj)/\w'.cell? ⟨w.heap.size+1+1+1,0,none⟩=some (.string data)/\Below (w.heap.size+1+1+1+1) W1 w') w' from fun w' bA=>⟨(bA.cell (p:=⟨w.heap.size,0,none⟩) (by show w.heap.size<_;omega)).trans x0,(bA.cell (p:=⟨w.heap.size,1,none⟩) (by show w.heap.size<_;omega)).trans x1,(bA.cell (p:=⟨w.heap.size,2,none⟩) (by show w.heap.size<_;omega)).trans x2,(bA.cell (p:=⟨w.heap.size,3,none⟩) (by show w.heap.size<_;omega)).trans x3,(bA.cell (p:=⟨w.heap.size,4,none⟩) (by show w.heap.size<_;omega)).trans x4,(bA.cell (p:=⟨w.heap.size,5,none⟩) (by show w.heap.size<_;omega)).trans x5,(bA.cell (p:=⟨w.heap.size+1,0,none⟩) (by show w.heap.size+1<_;omega)).trans k0,(bA.cell (p:=⟨w.heap.size+1+1,0,none⟩) (by show w.heap.size+1+1<_;omega)).trans k1,(bA.cell (p:=⟨w.heap.size+1+1+1,0,none⟩) (by show w.heap.size+1+1+1<_;omega)).trans k2,bA⟩);have mA:w.heap.size+1+1+1+1<=W1.heap.size:=by omega
 clear x0 x1 x2 x3 x4 x5 k0 k1 k2;refine wp_region_held_drew (S:=(fun w'=>w'.cell? ⟨w.heap.size,0,none⟩=some (v0)/\w'.cell? ⟨w.heap.size,1,none⟩=some (v1)/\w'.cell? ⟨w.heap.size,2,none⟩=some (.int .i64 W.time)/\w'.cell? ⟨w.heap.size,3,none⟩=some (.int .i64 W.next)/\w'.cell? ⟨w.heap.size,4,none⟩=some (v2)/\w'.cell? ⟨w.heap.size,5,none⟩=some (v3)/\w'.cell? ⟨w.heap.size+1,0,none⟩=some (.string name)/\w'.cell? ⟨w.heap.size+1+1,0,none⟩=some (.int .i64 zRj)/\w'.cell? ⟨w.heap.size+1+1+1,0,none⟩=some (.string data)/\Below (w.heap.size+1+1+1+1) W1 w')) (by kernel_rfl) (aA.out _ ((Below.refl _ _).drew.mono mA)) (fun hHeld=>?_);have iC:Below W1.heap.size W1 W1.drew:=(Below.refl _ _).drew;refine tk 0 (h:=?_);refine tk 1 (h:=?_);refine tk 3 (h:=?_);refine tk 6 (h:=?_);refine tk 8 (h:=?_);refine zJG [2,4,5] (fun i=>if i=5 then [4] else []) (fun i=>i+9) (fun i v w'=>(i=2->zAK w' v 2 (fun i=>match i with | 0=>name | _=>data))/\(i=4->QAt w' p 91 2 [.string name] v)/\(i=5->zGZ w' p 1 (fun i=>match i with  | _=>91) (fun i=>match i with  | _=>2) (fun i=>match i with  | _=>[.string name]) v)) 3 (G:=fun w'=>Below W1.heap.size W1 w') (by kernel_rfl) (by decide) (by decide) (by decide) ?_ (fun _ _ h t=>zA h t) (by assumption) iC ?_ ?_
 ·intro i v w' sC hf t;exact⟨fun e=>(hf.1 e).zRX t,fun e=>(hf.2.1 e).zRX t,fun e=>(hf.2.2 e).zRX t⟩
 ·intro i hi x w2 hS hG hD K hK;simp only[List.mem_cons,List.not_mem_nil,or_false]at hi;rcases hi with rfl | rfl | rfl
  ·refine wpOp_step (zAY rfl) (fun K' oA=>?_);simp only[qX,Act.put,Nat.reduceAdd,s1,s2,s3];have vA:=zC w2 (.cells #[.string name,.string data] 9);go_simp;refine oA _ _ (hK.out _ _ _ ?_ (aA.out _ ((zA hG vA).mono mA)) ⟨fun _=>zOk dA.out eA.out rfl rfl,fun e=>absurd e (by decide),fun e=>absurd e (by decide)⟩ vA);simp only[qX,Act.put,Nat.reduceAdd,s1,s2,s3]
  ·refine wpOp_step (zAY rfl) (fun K' oA=>?_);simp only[qX,Act.put,Nat.reduceAdd,s1,s2,s3];go_simp;go_at_call 33;refine(zKS p name w2 (HE.out.zRX (zA hb hG))).mono ?_;rintro e w3 ⟨B0,rfl,lA,iB⟩;refine oA _ _ (hK.out _ _ w3 ?_ (aA.out _ ((zA hG iB).mono mA)) ⟨fun e=>absurd e (by decide),fun _=>⟨_,rfl,zCh.one lA⟩,fun e=>absurd e (by decide)⟩ iB);simp only[qX,Act.put,Nat.reduceAdd,s1,s2,s3]
  ·refine wpOp_step (zAY rfl) (fun K' oA=>?_);simp only[qX,Act.put,Nat.reduceAdd,s1,s2,s3];obtain⟨rB,e0,aB⟩:=(hD 4 (by decide)).2.1 rfl;simp only[e0];have vA:=zC w2 (.cells #[.func (.func 91) #[] rB,qM (p 2)] 75);have hA:zGZ (w2.alloc (.cells #[.func (.func 91) #[] rB,qM (p 2)] 75)) p 1 (fun i=>match i with  | _=>91) (fun i=>match i with  | _=>2) (fun i=>match i with  | _=>[.string name]) (.slice (some ⟨w2.heap.size,0,none⟩) 1 1):=zQt (g:=(fun i=>match i with  | _=>91)) (ei:=(fun i=>match i with  | _=>2)) (caps:=(fun i=>match i with  | _=>[.string name])) aB;go_simp;refine oA _ _ (hK.out _ _ _ ?_ (aA.out _ ((zA hG vA).mono mA)) ⟨fun e=>absurd e (by decide),fun e=>absurd e (by decide),fun _=>hA⟩ vA);simp only[qX,Act.put,Nat.reduceAdd,s1,s2,s3,e0]
 ·intro x w2 hS hG hF;have hT:=(hF 2 (by decide)).1 rfl;obtain⟨-,ta,tc,et,-,-⟩:=id hT;have hN:zAK w2 (.slice none 0 0) 0 (fun _=>⟨#[]⟩):=⟨by omega,_,_,rfl,fun i hi=>absurd hi (Nat.not_lt_zero _),fun h=>absurd h (Nat.lt_irrefl _)⟩;obtain⟨lb,hA,bB⟩:=(hF 5 (by decide)).2.2 rfl;obtain⟨-,qa,qc,eq,-⟩:=id hA;simp only[qX,zAz,if_true,Act.put,Nat.reduceAdd,s1,s2,s3,et,eq];rw[et]at hT;rw[eq]at hA;have bA:=zA hb hG;have mC:=zd hT;have oC:=zd hN;have rC:=zd hA;have kB:=zd bB;clear hT hN hA bB hF;refine tk 7 (h:=?_);refine rd [9] (rc (fun K hK=>?_) .nil);go_simp;go_at_call 38;refine(zQ2 p _ _ _ 34 #[.pointer (some ⟨w.heap.size+1,0,none⟩),.pointer (some ⟨w.heap.size+1+1,0,none⟩),.pointer (some ⟨w.heap.size+1+1+1,0,none⟩)] 2 0 1 (fun i=>match i with | 0=>name | _=>data) (fun _=>⟨#[]⟩) (fun i=>match i with  | _=>91) lb (fun i=>match i with  | _=>2) (fun i=>match i with  | _=>zAU W name) o _ _ _ _ lo hi W w2 (HE.out.zRX bA) (Hp.out.zRX bA) jC.out b1 b2 b3 b4 mC.out oC.out rC.out ?_ ?_ (enters_of Tryz.func34 (by kernel_rfl) rfl) ?_ ?_).mono ?_
  ·intro i hi;obtain rfl:i=0:=(by omega);decide
  ·intro i hi;obtain rfl:i=0:=(by omega);exact enters_of Tryz.func91 (by kernel_rfl) rfl
  ·intro i hi' w' jA hI vC;have hW:=(Hp.out.zRX bA).zRX jA;have h8:=hI.zRo.zRg.1;have aD:=hI.zRo.zRe.1;obtain rfl:i=0:=(by omega);obtain⟨B0,pC,lA⟩:=(kB.out 0 (by decide)).is1;replace lA:=(jA.cell (zD lA)).trans lA;rw[pC];exact zJB v0 v1 v2 v3 lo hi W B0 name w' hW h8 iA lA
  ·intro C w' z0 z1 z2 z3 hC jA kC hI hl nC hq cA mB;exact gC.out (w.heap.size+1) (w.heap.size+1+1) (w.heap.size+1+1+1) C w' z0 z1 z2 z3 ((jA.cell (zD hS.2.2.2.2.2.2.1)).trans hS.2.2.2.2.2.2.1) (by have:=hG.size;omega) ((jA.cell (zD hS.2.2.2.2.2.2.2.1)).trans hS.2.2.2.2.2.2.2.1) (by have:=hG.size;omega) ((jA.cell (zD hS.2.2.2.2.2.2.2.2.1)).trans hS.2.2.2.2.2.2.2.2.1) (by have:=hG.size;omega) hI hl nC hq kC (zA bA jA) cA mB
  rintro e w3 ⟨r,pA,z0,z1,z2,z3,rfl,cA,iB⟩;obtain⟨n0,eB,n1,fB,n2,gB,n3,jB,rfl,rfl,rfl,rfl⟩:=cA.form;have kA:=zA hG iB;have tB:=zd (HR.out.zRX kA);have rA:=zd cA;have lB:=zd pA;clear cA pA;generalize cC:zMe r o=oo at rA ⊢;have fC:=zd cC;clear cC
  (try go_wp2_with fail)
  refine hK.out _ _ (aA.out _ (kA.mono mA)) ?_;clear hK K hHeld;intro hHeld
  try simp only[Act.put,s1,s2,s3]
  refine rd [10] (rc (fun K hK=>?_) .nil);obtain⟨⟨r0,g0⟩,⟨r1,g1⟩,⟨r2,g2⟩,⟨r3,g3⟩,⟨r4,g4⟩,⟨r5,g5⟩,⟨r6,g6⟩,⟨r7,g7⟩,⟨r8,g8⟩⟩:=tB.out;go_simp
  (try go_wp2_with fail)
  have hT:=zF.put9 w3 (w.heap.size+1+1+1+1) (.slice n0 oo.world.zRd.n eB) (.slice n1 oo.world.zRd.hn fB) (.int .i64 oo.world.time) (.int .i64 oo.world.next) (.slice n2 oo.world.sn gB) (.slice n3 oo.world.pn jB) (.int .i64 oo.id) (.int .i64 oo.zRp) (.int .i64 oo.code);have eC:Below (w.heap.size+1+1+1+1) W1 (((((((((w3.setCell ⟨w.heap.size+1+1+1+1,0,none⟩ (.slice n0 oo.world.zRd.n eB)).setCell ⟨w.heap.size+1+1+1+1,1,none⟩ (.slice n1 oo.world.zRd.hn fB)).setCell ⟨w.heap.size+1+1+1+1,2,none⟩ (.int .i64 oo.world.time)).setCell ⟨w.heap.size+1+1+1+1,3,none⟩ (.int .i64 oo.world.next)).setCell ⟨w.heap.size+1+1+1+1,4,none⟩ (.slice n2 oo.world.sn gB)).setCell ⟨w.heap.size+1+1+1+1,5,none⟩ (.slice n3 oo.world.pn jB)).setCell ⟨w.heap.size+1+1+1+1,6,none⟩ (.int .i64 oo.id)).setCell ⟨w.heap.size+1+1+1+1,7,none⟩ (.int .i64 oo.zRp)).setCell ⟨w.heap.size+1+1+1+1,8,none⟩ (.int .i64 oo.code)):=(kA.mono mA).trans (hT.zRX (B:=w.heap.size+1+1+1+1) (by have:=kA.size;omega) (fun k e=>by omega));refine hK.out _ _ (aA.out _ eC) ?_;clear hK K hHeld r0 r1 r2 r3 r4 r5 r6 r7 r8 g0 g1 g2 g3 g4 g5 g6 g7 g8;intro hHeld
  try simp only[Act.put,s1,s2,s3]
  refine wpAnyH_done (by kernel_rfl) ?_ _;go_wp2_with fail;have fA:=tB.out.put (.slice n0 oo.world.zRd.n eB) (.slice n1 oo.world.zRd.hn fB) (.int .i64 oo.world.time) (.int .i64 oo.world.next) (.slice n2 oo.world.sn gB) (.slice n3 oo.world.pn jB) (.int .i64 oo.id) (.int .i64 oo.zRp) (.int .i64 oo.code);have vB:=zA hb kA;have lC:=hT.size;have tC:=kA.size;refine bodyPost_ret (v:=.agg #[.slice n0 oo.world.zRd.n eB,.slice n1 oo.world.zRd.hn fB,.int .i64 oo.world.time,.int .i64 oo.world.next,.slice n2 oo.world.sn gB,.slice n3 oo.world.pn jB,.int .i64 oo.id,.int .i64 oo.zRp,.int .i64 oo.code]) (by simp[results,Tryz.results10,go_sem,fA.1.1,fA.2.1.1,fA.2.2.1.1,fA.2.2.2.1.1,fA.2.2.2.2.1.1,fA.2.2.2.2.2.1.1,fA.2.2.2.2.2.2.1.1,fA.2.2.2.2.2.2.2.1.1,fA.2.2.2.2.2.2.2.2.1]) rfl ⟨r,lB.out,?_⟩;rw[fC.out];refine⟨_,_,_,_,rfl,?_,?_⟩
  ·exact(rA.out.zRf hT (fun k e=>by have:=hG.size;omega)).zRc (by have:=hG.size;omega) lC
  ·exact vB.trans (hT.zRX (B:=w.heap.size) vB.size (fun k e=>by omega))
def zAM(p:zI)(xs:Int):zI:={n:=p.n,s:=p.s,hn:=p.hn+1,h:=fun i=>if i=p.hn then xs else p.h i}
open Classical in
noncomputable def zHz(p:zI)(xs xb:Int):zD0:=if zx p then(if zr p xs xb/\¬Has p.hn p.h xs then⟨zAM p xs,0,0,0⟩else⟨zEV 0,0,0,4⟩)else⟨zEV 0,0,0,1⟩
theorem zNy{p:zI}{xs xb:Int}(h:¬zx p):zHz p xs xb=⟨zEV 0,0,0,1⟩:=if_neg h
theorem zJa{p:zI}{xs xb:Int}(h:zx p)(h':¬(zr p xs xb/\¬Has p.hn p.h xs)):zHz p xs xb=⟨zEV 0,0,0,4⟩:=(if_pos h).trans (if_neg h')
theorem zNn{p:zI}{xs xb:Int}(h:zx p)(h':zr p xs xb)(aA:¬Has p.hn p.h xs):zHz p xs xb=⟨zAM p xs,0,0,0⟩:=(if_pos h).trans (if_pos ⟨h',aA⟩)
theorem zPL{f g:Nat->Int}{n:Nat}(h:∀i,i<n->f i=g i):ic f n=ic g n:=by
 induction n with
 | zero=>rfl
 | succ n ih=>
  unfold ic;rw[ih (fun i hi=>h i (by omega)),h n (by omega)]
theorem zNR(p:zI)(xs:Int):ic (zAM p xs).h (p.hn+1)=ic p.h p.hn ++ [.int .i64 xs]:=by
 show ic (zAM p xs).h p.hn ++ [.int .i64 ((zAM p xs).h p.hn)]=_;rw[zPL (f:=(zAM p xs).h) (g:=p.h) (fun i hi=>if_neg (by omega)),show(zAM p xs).h p.hn=xs from if_pos rfl]
theorem zQw(w:World)(a0 a1 x0 x1:Value)(t1 t2 t3:TypeId) :
  zc (((w.alloc (.cells #[a0,a1] t1)).alloc (.cells #[x0,x1] t2)).alloc (.cells #[.slice none 0 0,.slice none 0 0,.int .i64 0,.int .i64 0,.int .i64 0] t3)) w.heap.size a0 a1/\
  zc (((w.alloc (.cells #[a0,a1] t1)).alloc (.cells #[x0,x1] t2)).alloc (.cells #[.slice none 0 0,.slice none 0 0,.int .i64 0,.int .i64 0,.int .i64 0] t3)) (w.heap.size+1) x0 x1/\
  zDg (((w.alloc (.cells #[a0,a1] t1)).alloc (.cells #[x0,x1] t2)).alloc (.cells #[.slice none 0 0,.slice none 0 0,.int .i64 0,.int .i64 0,.int .i64 0] t3)) (w.heap.size+1+1) (.slice none 0 0) (.slice none 0 0) (.int .i64 0) (.int .i64 0) (.int .i64 0)/\
  Below w.heap.size w (((w.alloc (.cells #[a0,a1] t1)).alloc (.cells #[x0,x1] t2)).alloc (.cells #[.slice none 0 0,.slice none 0 0,.int .i64 0,.int .i64 0,.int .i64 0] t3))/\
  (((w.alloc (.cells #[a0,a1] t1)).alloc (.cells #[x0,x1] t2)).alloc (.cells #[.slice none 0 0,.slice none 0 0,.int .i64 0,.int .i64 0,.int .i64 0] t3)).heap.size=w.heap.size+3:=by
 refine⟨((zc.zRZ w a0 a1 t1).zRX (zC _ _)).zRX (zC _ _),?_,?_,zA (zA (zC _ _) (zC _ _)) (zC _ _),by simp⟩
 ·have:=(zc.zRZ (w.alloc (.cells #[a0,a1] t1)) x0 x1 t2).zRX (zC _ (.cells #[.slice none 0 0,.slice none 0 0,.int .i64 0,.int .i64 0,.int .i64 0] t3));rw[World.size_alloc]at this;exact this
 ·have:=zDg.zRZ ((w.alloc (.cells #[a0,a1] t1)).alloc (.cells #[x0,x1] t2)) (.slice none 0 0) (.slice none 0 0) (.int .i64 0) (.int .i64 0) (.int .i64 0) t3;rw[World.size_alloc,World.size_alloc]at this;exact this
theorem zHU{w wr:World}{lo hi R:Nat}{s0 s1 u2 u3 u4:Value}{p:zI}(ho:zy wr lo hi s0 s1 p)(cA:R<lo)(aA:w.heap.size<=R)(bA:hi<=wr.heap.size)(hb:Below w.heap.size w wr) :
  zy (put5 wr R s0 s1 u2 u3 u4) w.heap.size (put5 wr R s0 s1 u2 u3 u4).heap.size s0 s1 p/\Below w.heap.size w (put5 wr R s0 s1 u2 u3 u4):=by
 have t:=zF.put5 wr R s0 s1 u2 u3 u4;have hz:=t.size;exact⟨(ho.zRf t (fun k hk=>by omega)).zRc (by omega) (by omega),hb.trans (t.zRX (by have:=hb.size;omega) (fun k hk=>by omega))⟩
theorem zCw{w wr:World}{R:Nat}{u2 u3 u4:Value}(aA:w.heap.size<=R)(hb:Below w.heap.size w wr) :
  zy (put5 wr R (.slice none 0 0) (.slice none 0 0) u2 u3 u4) w.heap.size (put5 wr R (.slice none 0 0) (.slice none 0 0) u2 u3 u4).heap.size (.slice none 0 0) (.slice none 0 0) (zEV 0)/\Below w.heap.size w (put5 wr R (.slice none 0 0) (.slice none 0 0) u2 u3 u4):=by
 have t:=zF.put5 wr R (.slice none 0 0) (.slice none 0 0) u2 u3 u4;exact⟨zH9,hb.trans (t.zRX (by have:=hb.size;omega) (fun k hk=>by omega))⟩
theorem zCE{b:Nat}{w w':World}(t:zF (fun k=>k=b) w w'):w.grownBy w' (some b):=⟨t.os,t.tape,t.output,t.size,fun k hk aA=>t.block k hk (fun e=>aA (by rw[e]))⟩
theorem zRH(w:World)(x:Value)(t:TypeId):∀j u,[x][j]?=some u->(w.alloc (.cells #[x] t)).cell? ((⟨w.heap.size,0,none⟩:Addr).add j)=some u:=by
 intro j u hj
 match j,hj with
 | 0,hj=>simp at hj;subst hj;simp[Addr.add]
 | (j+1),hj=>simp at hj
theorem zQS(x:Int):∀u∈[Value.int .i64 x],u.oneCell'=true:=by
 intro u hu;simp only[List.mem_cons,List.not_mem_nil,or_false]at hu;rw[hu];rfl
theorem zNb{w:World}{lo hi:Nat}{f:Nat->Int}{n c:Nat}{a:Option Addr}(h:qV w lo hi (.slice a n c) n f){w':World}(hb:Below w.heap.size w w'):∀b,a=some b->∀j u,(ic f n)[j]?=some u->w'.cell? (b.add j)=some u:=by
 intro b aA j u hj;have bA:j<n:=by
  have:=(List.getElem?_eq_some_iff.1 hj).1;rw[zBu]at this;omega
 obtain⟨b0,off,ha,hc⟩:=zKn h rfl hb (by omega);rw[ha]at aA;simp only[Option.some.injEq]at aA;subst aA;rw[add_lit];exact hc j u hj
theorem zLf{w:World}{lo hi:Nat}{f:Nat->Int}{n c:Nat}{a:Option Addr}(h:qV w lo hi (.slice a n c) n f):a=none->n=0/\n=0:=fun e=>by
 obtain⟨_,a2,c2,hv,_,hx⟩:=h;simp only[Value.slice.injEq,true_and]at hv;obtain⟨rfl,rfl⟩:=hv;by_cases h0:0<n
 ·obtain⟨b,off,ha,_⟩:=hx h0;rw[ha]at e;cases e
 ·omega
theorem zCu{w w':World}(h:w.grownBy w' none):Below w.heap.size w w':=⟨h.os,h.tape,h.output,h.size,fun k hk=>h.block k hk (by simp)⟩
theorem zFk{w:World}{b:Nat}{x:Value}(h:w.cell? ⟨b,0,none⟩=some x):∀j u,[x][j]?=some u->w.cell? ((⟨b,0,none⟩:Addr).add j)=some u:=by
 intro j u hj
 match j,hj with
 | 0,hj=>simp at hj;subst hj;rw[add_lit];exact h
 | (j+1),hj=>simp at hj
theorem zMB{p:zI}{xs y:Int}{j:Nat}(hj:j<=p.hn):Has j (zAM p xs).h y↔Has j p.h y:=by
 constructor
 ·rintro⟨k,hk,e⟩;exact⟨k,hk,by rw[<-e];exact(if_neg (by omega:¬k=p.hn)).symm⟩
 ·rintro⟨k,hk,e⟩;exact⟨k,hk,by rw[<-e];exact if_neg (by omega:¬k=p.hn)⟩
theorem zMf{p:zI}{xs xb:Int}(hR:zx p)(hP:zr p xs xb)(hH:¬Has p.hn p.h xs):zx (zAM p xs):=by
 refine⟨hR.1,fun j hj=>hR.2.1 j hj,fun j hj=>?_⟩;by_cases e:j=p.hn
 ·subst e;have hx:(zAM p xs).h p.hn=xs:=if_pos rfl;refine⟨?_,?_,?_,?_⟩
  ·rw[hx];exact hP.2.1
  ·rw[hx];exact hP.2.2.1
  ·rw[hx];intro hf;have h4:=hP.2.2.2;have h5:(p.s xs.toNat).zRi=0:=hf.1;have:=hP.1;omega
  ·rw[hx,zMB (Nat.le_refl _)];exact hH
 ·have aA:j<p.hn:=(by have:j<p.hn+1:=hj;omega);have hx:(zAM p xs).h j=p.h j:=if_neg e;obtain⟨h1,h2,h3,h4⟩:=hR.2.2 j aA;refine⟨?_,?_,?_,?_⟩
  ·rw[hx];exact h1
  ·rw[hx];exact h2
  ·rw[hx];exact h3
  ·rw[hx,zMB (by omega)];exact h4
def zDJ(t:Nat)(left:Int)(e:Ending):Prop:=∃r:Int,e = .returned (.int .i64 r)/\(0<=r->r+t=left)/\r<=left/\-1<=r
theorem zFf(v:Value)(n lo hi:Nat)(f g:Nat->Int)(left:Int)(w:World)(h1:zU w lo hi v n f g)(aA:0<=left)(bA:left<=1048576) :
  Calls Tryz.prog 135 #[v,.int .i64 left] w fun e w'=>zDJ n left e/\Below w.heap.size w w':=by
 obtain⟨m1,a,c,rfl,mc,g1⟩:=h1;unfold maxLen at m1;clear g1;by_cases h:left - (n:Int)<0
 ·go_enter Tryz.func135,Tryz.ntmps135;go_wp2;go_ret;exact⟨⟨-1,rfl,by omega,by omega,by omega⟩,Below.refl _ _⟩
 ·go_enter Tryz.func135,Tryz.ntmps135;go_wp2;go_ret;exact⟨⟨_,rfl,by omega,by omega,by omega⟩,Below.refl _ _⟩
theorem zKc(v:Value)(n lo hi:Nat)(f:Nat->Int)(left:Int)(w:World)(h1:qV w lo hi v n f)(aA:0<=left)(bA:left<=1048576) :
  Calls Tryz.prog 65 #[v,.int .i64 left] w fun e w'=>zDJ n left e/\Below w.heap.size w w':=by
 obtain⟨m1,a,c,rfl,mc,g1⟩:=h1;unfold maxLen at m1;clear g1;by_cases h:left - (n:Int)<0
 ·go_enter Tryz.func65,Tryz.ntmps65;go_wp2;go_ret;exact⟨⟨-1,rfl,by omega,by omega,by omega⟩,Below.refl _ _⟩
 ·go_enter Tryz.func65,Tryz.ntmps65;go_wp2;go_ret;exact⟨⟨_,rfl,by omega,by omega,by omega⟩,Below.refl _ _⟩
theorem zNB(v0 v1 v2:Value)(lo hi:Nat)(s:zL)(left:Int)(w:World)(h1:qH w lo hi v0 v1 v2 s)(eA:0<=left)(fA:left<=1048576) :
  Calls Tryz.prog 134 #[.agg #[v0,v1,v2],.int .i64 left] w fun e w'=>zDJ (zAN s) left e/\Below w.heap.size w w':=by
 obtain⟨rfl,p1,rfl,m1⟩:=h1;have q1:=p1;obtain⟨_,a,c,rfl,_⟩:=p1;unfold maxLen at m1;go_enter Tryz.func134,Tryz.ntmps134;go_wp2_with fail;have bA:=(Below.refl w.heap.size w).alloc (Nat.le_refl _) (.cells #[.int .i64 s.zRi,.slice a s.kn c,.string s.data] 183);refine(zFf _ s.kn lo hi _ _ _ _ (q1.zRX bA) eA fA).mono ?_;rintro e w1 ⟨⟨r,rfl,dA,iA,gA⟩,aA⟩;have cA:=zA bA aA;have e1:=aA.cell (p:=⟨w.heap.size,2,none⟩) (by simp);simp at e1;have Hr:Hid (0<=r->r+s.kn=left):=dA;clear dA aA bA;by_cases h:r<0
 ·go_wp2;go_ret;exact⟨⟨-1,rfl,by omega,by omega,by omega⟩,cA⟩
 ·by_cases h2:r - (s.data.size:Int)<0
  ·go_wp2;go_ret;exact⟨⟨-1,rfl,by omega,by omega,by omega⟩,cA⟩
  ·go_wp2;go_ret;refine⟨⟨_,rfl,fun _=>?_,by omega,by omega⟩,cA⟩;have:=Hr.out (by omega);unfold zAN;omega
theorem zLV(v:Value)(n lo hi:Nat)(f:Nat->zL)(left:Int)(w:World)(h1:qA w lo hi v n f)(mA:0<=left)(pA:left<=1048576) :
  Calls Tryz.prog 64 #[v,.int .i64 left] w fun e w'=>zDJ (n+ym f n) left e/\Below w.heap.size w w':=by
 obtain⟨m1,a,c,rfl,mc,g1⟩:=h1;unfold maxLen at m1;have G1:Hid (0<n->∃b off,a=some ⟨b,off,none⟩/\lo<=b/\b<hi/\∀i,i<n->∃v0 v1 v2,w.cell? ⟨b,off+i*3,none⟩=some v0/\w.cell? ⟨b,off+i*3+1,none⟩=some v1/\w.cell? ⟨b,off+i*3+2,none⟩=some v2/\qH w lo hi v0 v1 v2 (f i)):=g1;clear g1;by_cases h:left - (n:Int)<0
 ·go_enter Tryz.func64,Tryz.ntmps64;go_wp2;go_ret;exact⟨⟨-1,rfl,by omega,by omega,by omega⟩,Below.refl _ _⟩
 ·go_enter Tryz.func64,Tryz.ntmps64;go_wp2
  go_loopw [1,5] (fun m i wr=>∃(k:Nat) (r:Int),k<=n/\i = .int .i64 k/\m = .int .i64 r/\0<=r/\r+n+ym f k=left/\Below w.heap.size w wr) (fun _ i _=>n - (intOf i).toNat)
  case atStart=>exact⟨0,_,Nat.zero_le _,rfl,rfl,by omega,by simp[ym],Below.refl _ _⟩
  case round=>
   obtain⟨k,r,hk,rfl,rfl,fA,hr,hb⟩:=hrel;have kA:r<=left:=(by omega);have Hr:Hid (r+n+ym f k=left):=hr;clear hr;by_cases jA:k<n
   ·have gA:(k:Int)<(n:Int):=(by omega);obtain⟨b,off,rfl,_,_,k1⟩:=G1.out (by omega);obtain⟨x0,x1,x2,c0,c1,c2,hs⟩:=k1 k jA;have eA:=(hb.cell (zD c0)).trans c0;have iA:=(hb.cell (zD c1)).trans c1;have lA:=(hb.cell (zD c2)).trans c2;have cA:=hs.zRX hb;have Hs:Hid (qH wr lo hi x0 x1 x2 (f k)):=cA;clear k1 G1 c0 c1 c2 hs;obtain⟨rfl,⟨_,ka,kc,rfl,_⟩,rfl,_⟩:=cA;go_wp2_with fail;refine(zNB _ _ _ lo hi (f k) _ _ Hs.out fA (by omega)).mono ?_;rintro e w1 ⟨⟨r',rfl,bA,nA,oA⟩,aA⟩;have dA:=zA hb aA;have Hq:Hid (0<=r'->r'+zAN (f k)=r):=bA;clear bA aA eA iA lA;by_cases h3:r'<0
    ·go_wp2;go_ret;exact⟨⟨-1,rfl,by omega,by omega,by omega⟩,dA⟩
    ·go_wp2;go_roundw
     case rel=>
      refine⟨k+1,r',by omega,by go_num,rfl,by omega,?_,dA⟩;have e1:=Hq.out (by omega);have e2:=Hr.out;show r'+(n:Int)+((ym f k+zAN (f k):Nat):Int)=left;omega
     case measure=>simp[intOf];omega
   ·obtain rfl:k=n:=(by omega);go_wp2;go_ret;exact⟨⟨r,rfl,fun _=>by have:=Hr.out;omega,kA,by omega⟩,hb⟩
theorem zNI(v0 v1:Value)(lo hi:Nat)(p:zI)(left:Int)(w:World)(h1:zu w lo hi v0 v1 p)(iA:0<=left)(jA:left<=1048576) :
  Calls Tryz.prog 22 #[.agg #[v0,v1],.int .i64 left] w fun e w'=>zDJ (qC p) left e/\Below w.heap.size w w':=by
 have q1:=h1;obtain⟨⟨_,a,c,rfl,_⟩,⟨_,a',c',rfl,_⟩⟩:=h1;go_enter Tryz.func22,Tryz.ntmps22;go_wp2_with fail;have bA:=(Below.refl w.heap.size w).alloc (Nat.le_refl _) (.cells #[.slice a p.n c,.slice a' p.hn c'] 25);refine(zLV _ p.n lo hi _ _ _ (q1.1.zRX bA) iA jA).mono ?_;rintro e w1 ⟨⟨r,rfl,gA,lA,kA⟩,aA⟩;have cA:=zA bA aA;have e1:=aA.cell (p:=⟨w.heap.size,1,none⟩) (by simp);simp at e1;have Hr:Hid (0<=r->r+(p.n+ym p.s p.n:Nat)=left):=gA;clear gA aA bA;by_cases h:r<0
 ·go_wp2;go_ret;exact⟨⟨-1,rfl,by omega,by omega,by omega⟩,cA⟩
 ·go_wp2_with fail;refine(zKc _ p.hn lo hi _ _ _ (q1.2.zRX cA) (by omega) (by omega)).mono ?_;rintro e w2 ⟨⟨r',rfl,dA,mA,nA⟩,fA⟩;have eA:=zA cA fA;have Hq:Hid (0<=r'->r'+p.hn=r):=dA;clear dA fA;by_cases h3:r'<0
  ·go_wp2;go_ret;exact⟨⟨-1,rfl,by omega,by omega,by omega⟩,eA⟩
  ·go_wp2;go_ret;refine⟨⟨r',rfl,fun _=>?_,by omega,by omega⟩,eA⟩;have e1:=Hq.out (by omega);have e2:=Hr.out (by omega);unfold qC;omega
theorem zG3{p:zI}(h:∀i,i<p.n->qE (p.s i)\/zAg p (p.s i)):∀k,k<=p.n->ym p.s k<=24*k
 | 0,_=>Nat.le_refl _
 | k+1,hk=>by
  have ih:=zG3 h k (by omega);have hs:zAN (p.s k)<=24:=by
   unfold zAN;rcases h k (by omega)with hf | hf
   ·have h1:=hf.2.1;have h2:(p.s k).data.size=0:=by
     have:=hf.2.2;rw[Go.ByteArray.toList_eq]at this;have e:(p.s k).data.data=#[]:=(by simpa using this);show(p.s k).data.data.size=0;rw[e];rfl
    omega
   ·rcases hf.2 with h2 | h2
    ·omega
    ·have h3:(p.s k).data.size=0:=by
      have:=h2.2.1;rw[Go.ByteArray.toList_eq]at this;have e:(p.s k).data.data=#[]:=(by simpa using this);show(p.s k).data.data.size=0;rw[e];rfl
     omega
  show ym p.s k+zAN (p.s k)<=_;omega
theorem zEI{p:zI}(h:zx p):qC p<=10000:=by
 have h1:=zG3 h.2.1 p.n (Nat.le_refl _);have h2:=((zCa p).2 h).2.1;have h3:=h.1;unfold qC;omega
def zv(p:zI):List (Int×Int)->zI
 | []=>p
 | x :: l=>zv (zAM p x.1) l
def yU(p:zI)(l:List (Int×Int)):Prop:=zx p/\(∀x,x∈l->zr p x.1 x.2/\¬Has p.hn p.h x.1)/\(l.map Prod.fst).Nodup
theorem zNw{p:zI}{xs y:Int}(h:Has (p.hn+1) (zAM p xs).h y):Has p.hn p.h y\/y=xs:=by
 obtain⟨j,hj,e⟩:=h;by_cases ej:j=p.hn
 ·right;rw[<-e,ej];exact if_pos rfl
 ·left;exact⟨j,by omega,by rw[<-e];exact(if_neg ej).symm⟩
theorem yU.head{p:zI}{x:Int×Int}{l:List (Int×Int)}(h:yU p (x :: l)):zHz p x.1 x.2=⟨zAM p x.1,0,0,0⟩/\yU (zAM p x.1) l:=by
 obtain⟨h1,h2,h3⟩:=h;obtain⟨g1,g2⟩:=h2 x List.mem_cons_self;rw[List.map_cons,List.nodup_cons]at h3;refine⟨zNn h1 g1 g2,zMf h1 g1 g2,fun y hy=>?_,h3.2⟩;obtain⟨k1,k2⟩:=h2 y (List.mem_cons_of_mem _ hy);refine⟨k1,fun hh=>?_⟩;rcases zNw hh with e | e
 ·exact k2 e
 ·exact h3.1 (e▸List.mem_map_of_mem hy)
theorem yU.cut{l':List (Int×Int)}:∀{l:List (Int×Int)} {p:zI},yU p (l ++ l')->yU (zv p l) l'
 | [],_,h=>h
 | x :: l,p,h=>yU.cut (l:=l) (p:=zAM p x.1) (yU.head (p:=p) (x:=x) (l:=l ++ l') h).2
theorem zDo(x:Int×Int):∀(l:List (Int×Int)) (p:zI),zv p (l ++ [x])=zAM (zv p l) x.1
 | [],_=>rfl
 | y :: l,p=>zDo x l (zAM p y.1)
theorem zJp:∀(l:List (Int×Int)) (p:zI),(zv p l).n=p.n/\(zv p l).s=p.s/\(zv p l).hn=p.hn+l.length
 | [],_=>⟨rfl,rfl,rfl⟩
 | y :: l,p=>by
  obtain⟨h1,h2,h3⟩:=zJp l (zAM p y.1);refine⟨h1,h2,?_⟩;show(zv (zAM p y.1) l).hn=_;rw[h3,List.length_cons];show p.hn+1+l.length=_;omega
theorem yU.next{p:zI}{l:List (Int×Int)}(h:yU p l){i:Nat}(hi:i<l.length):zHz (zv p (l.take i)) l[i].1 l[i].2=⟨zv p (l.take (i+1)),0,0,0⟩/\zx (zv p (l.take i)):=by
 have e:l=l.take i ++ l[i] :: l.drop (i+1):=by
  rw[List.getElem_cons_drop,List.take_append_drop]
 have h1:yU (zv p (l.take i)) (l[i] :: l.drop (i+1)):=yU.cut (l:=l.take i) (by rw[<-e];exact h);refine⟨?_,h1.1⟩;rw[h1.head.1,List.take_succ_eq_append_getElem hi,zDo]
theorem zGW(f g:Nat->Int)(t:Int):∀k,(qY f g t k).Sublist ((List.range k).map fun i=>(f i,g i))
 | 0=>List.Sublist.refl _
 | k+1=>by
  rw[List.range_succ,List.map_append,List.map_singleton];unfold qY;split
  ·exact(zGW f g t k).append (List.Sublist.refl _)
  ·exact(zGW f g t k).trans (List.sublist_append_left _ _)
theorem yU.sub{p:zI}{l l':List (Int×Int)}(h:yU p l)(hs:l'.Sublist l):yU p l':=⟨h.1,fun x hx=>h.2.1 x (hs.subset hx),List.Nodup.sublist (hs.map _) h.2.2⟩
theorem yU.tree{p:zI}{rs rb:Int}(hR:zx p)(hT:qG p rs rb):yU p (zR p rs rb):=by
 refine⟨hR,fun x hx=>?_,?_⟩
 ·have:=zAb hR hT hx;exact⟨this.1,this.2.2⟩
 ·rcases hT with h | h
  ·rw[zR,if_pos h];exact List.nodup_nil
  ·exact h.2.2
theorem zRD{l:List (Int×Int)}{i:Nat}(hi:i<l.length):(zf l i,zh l i)=l[i]:=by
 unfold zf zh;rw[List.getD_eq_getElem?_getD,List.getElem?_eq_getElem hi];rfl
theorem yU.ptrs{p:zI}{l:List (Int×Int)}(h:yU p l)(hl:l.length<=200):qm l.length (zf l) (zh l):=by
 refine⟨by omega,fun i hi=>?_,fun i hi k hk e=>?_⟩
 ·have hm:(zf l i,zh l i)∈l:=(by rw[zRD hi];exact List.getElem_mem hi);have h1:=(h.2.1 _ hm).1;have hf:=qS h.1 h1;have hb:=hf.1;have h2:=h.1.1;unfold zr at h1;unfold qi at hb;unfold zFG;dsimp only at h1 hb ⊢;have h3:=h1.2.2.2;omega
 ·have hn:=h.2.2;have hi':i<(l.map Prod.fst).length:=(by rw[List.length_map];exact hi);have aA:k<(l.map Prod.fst).length:=(by rw[List.length_map];omega);have e1:∀j (hj:j<(l.map Prod.fst).length),(l.map Prod.fst)[j]=zf l j:=fun j hj=>by
   rw[List.length_map]at hj;rw[List.getElem_map];unfold zf;rw[List.getD_eq_getElem?_getD,List.getElem?_eq_getElem hj];rfl
  have:=(List.getElem_inj (h₀:=aA) (h₁:=hi') hn).1 (by rw[e1,e1];exact e);omega
theorem zN2(l:List (Int×Int)):((List.range l.length).map fun i=>(zf l i,zh l i))=l:=by
 refine List.ext_getElem (by simp) (fun i h1 h2=>?_);rw[List.getElem_map,List.getElem_range];exact zRD h2
def zBL(n:Nat)(f g:Nat->Int):List (Int×Int):=(List.range n).map fun i=>(f i,g i)
theorem zAt(n:Nat)(f g:Nat->Int):(zBL n f g).length=n:=by
 unfold zBL;rw[List.length_map,List.length_range]
theorem zIQ{n:Nat}(f g:Nat->Int){i:Nat}(hi:i<n):zf (zBL n f g) i=f i/\zh (zBL n f g) i=g i:=by
 unfold zf zh zBL;rw[List.getD_eq_getElem?_getD,List.getElem?_map,List.getElem?_range hi];exact⟨rfl,rfl⟩
theorem zLF(f g:Nat->Int)(t:Int):∀n,(zBx f g t n).length<=n
 | 0=>Nat.le_refl _
 | n+1=>by
  have:=zLF f g t n;unfold zBx;split
  ·omega
  ·rw[List.length_append,List.length_singleton];omega
theorem zKX{w w':World}{row:Option Nat}(h:w.grownBy w' row):zF (fun k=>row=some k) w w':=⟨h.os,h.tape,h.output,h.size,fun k hk hn=>h.block k hk (fun e=>hn e.symm)⟩
theorem zLH{w:World}(ty:TypeId)(a ao:Option Addr)(c:Nat):(Builtin.append_ #[62,62] ty #[.slice a 0 0,.slice ao 0 c]).run Tryz.prog w = .ok (.slice a 0 0) w:=by
 obtain⟨i0,aA,bA⟩:=Option.map_eq_some_iff.1 zCj;have ht:Tryz.prog.underlying 62=some (.slice 61):=by kernel_rfl
 cases a<;>cases ao<;>simp[Builtin.append_,run_underlying ht,sizeOf,typeInfo,aA,Builtin.lenOf,Builtin.firstCells,storeCells,loadCells,loadCellsFrom]
theorem zGz{w:World}{kb n lo hi:Nat}{kv vo:Value}{f g:Nat->Int}{l:List (Int×Int)}(ho:zm w kb kv n f g)(hB:yg w 61 2 kv n)(hv:zU w lo hi vo l.length (zf l) (zh l))(hn:n+l.length<=4000000)(ty:TypeId) :
  ∃a c w' nb,(Builtin.append_ #[62,62] ty #[kv,vo]).run Tryz.prog w = .ok (.slice a (n+l.length) c) w'/\zm w' nb (.slice a (n+l.length) c) (zBL n f g ++ l).length (zf (zBL n f g ++ l)) (zh (zBL n f g ++ l))/\zF (fun j=>0<n/\j=kb) w w'/\(0<n+l.length->(0<n/\nb=kb)\/(w.heap.size<=nb/\nb<w'.heap.size)):=by
 obtain⟨i0,lA,nA⟩:=Option.map_eq_some_iff.1 zCj;simp only[Prod.mk.injEq]at nA;obtain⟨tA,aB,bB⟩:=nA;have ht:Tryz.prog.underlying 62=some (.slice 61):=by kernel_rfl
 have gA:(zBL n f g ++ l).length=n+l.length:=by rw[List.length_append,zAt]
 have kA:0<n->kv.ownBlock=some kb:=fun h0=>by
  obtain⟨_,a,c,hv,_,hx⟩:=ho;obtain⟨off,ha,_⟩:=hx h0;rw[hv,ha];rfl
 have cA:0<n->∀q,kv.ownBlock=some q->∀j u,(pcl (zBL n f g))[j]?=some u->w.cell? ⟨q,j,none⟩=some u:=fun h0 q hq j u hj=>by
  have oA:j<n*2:=by
   have:=(List.getElem?_eq_some_iff.1 hj).1
   rwa [zA6,zAt]at this
  obtain⟨_,a,c,jA,_,hx⟩:=ho;obtain⟨off,mA,aA⟩:=hx h0;rcases hB with⟨e,_⟩ | ⟨_,g',pA,eB,dA,_⟩
  ·omega
  ·rw[jA,mA]at dA;simp only[Value.slice.injEq,Option.some.injEq,Addr.mk.injEq,and_true,true_and]at dA;obtain⟨⟨rfl,rfl⟩,rfl⟩:=dA;rw[jA,mA]at hq;obtain rfl:kb=q:=(by injection hq);obtain⟨i,hd,eA⟩:∃i,i<n/\(j=i*2\/j=i*2+1):=⟨j / 2,by omega,by omega⟩;have h8:=aA i hd;obtain⟨e1,e2⟩:=zBY (zBL n f g) i (by rw[zAt];exact hd);have e3:=zIQ f g hd;unfold zf zh at e3;rw[e3.1]at e1;rw[e3.2]at e2;rcases eA with rfl | rfl
   ·rw[e1]at hj;replace hj:=Option.some.inj hj;have h9:=h8.1.1;rw[Nat.zero_add]at h9;rw[h9,hj]
   ·rw[e2]at hj;replace hj:=Option.some.inj hj;have h9:=h8.2.1;rw[Nat.zero_add]at h9;rw[h9,hj]
 by_cases iA:l.length=0
 ·obtain rfl:l = []:=List.eq_nil_of_length_eq_zero iA;obtain⟨_,ao,co,rfl,_,_⟩:=hv;have bA:∀a c,kv = .slice a n c->zm w kb (.slice a n c) (zBL n f g ++ []).length (zf (zBL n f g ++ [])) (zh (zBL n f g ++ [])):=fun a c e=>by
   rw[List.append_nil,zAt];obtain⟨h1,a',c',h2,h3,hx⟩:=ho;rw[e]at h2;cases h2;refine⟨h1,a,c,rfl,h3,fun h0=>?_⟩;obtain⟨off,ha,aA⟩:=hx h0;exact⟨off,ha,fun i hi=>by rw[(zIQ f g hi).1,(zIQ f g hi).2];exact aA i hi⟩
  rcases Nat.eq_zero_or_pos n with h0 | h0
  ·rcases hB with⟨_,a,rfl⟩ | ⟨hp,_⟩
   ·subst h0;exact⟨a,0,w,kb,zLH ty a ao co,bA a 0 rfl,zF.refl _ _,fun h=>by simp at h⟩
   ·omega
  ·obtain⟨a,c,hv⟩:∃a c,kv = .slice a n c:=(by obtain⟨_,a,c,h,_⟩:=ho;exact⟨a,c,h⟩);have fA:=hB.owns (base:=0) (xs:=pcl (zBL n f g)) h0 (by rw[zA6,zAt]) (fun _ _=>Nat.zero_le _) (cA h0);exact⟨a,c,w,kb,by rw[show(Value.slice a (n+([]:List (Int×Int)).length) c)=kv from hv.symm];exact zA5 0 62 ty 61 i0 2 co ao ht lA kv n _ fA,bA a c hv,zF.refl _ _,fun _=>Or.inl ⟨h0,rfl⟩⟩
 ·obtain⟨-,ao,co,rfl,-,hx⟩:=hv;obtain⟨b,off,rfl,-,-,aA⟩:=hx (by omega);obtain⟨q,dB,w',row,hr,bA,hg,vA,sA,cB⟩:=yg.append (P:=Tryz.prog) 62 ty 61 i0 _ 2 16 0 ht lA tA aB bB rfl (by decide) hB (xs:=pcl (zBL n f g)) (by rw[zA6,zAt]) (fun _ _ _=>Nat.zero_le _) cA
   ⟨b,off,none⟩ l.length co (pcl l) (zA6 l) (fun j u hj=>by
    have oA:j<l.length*2:=by
     have:=(List.getElem?_eq_some_iff.1 hj).1
     rwa [zA6]at this
    obtain⟨i,hd,eA⟩:∃i,i<l.length/\(j=i*2\/j=i*2+1):=⟨j / 2,by omega,by omega⟩;have h8:=aA i hd;obtain⟨e1,e2⟩:=zBY l i hd;rcases eA with rfl | rfl
    ·rw[e1]at hj;replace hj:=Option.some.inj hj;rw[<-hj,show(⟨b,off,none⟩:Addr).add (i*2)=⟨b,off+i*2,none⟩from by simp[Addr.add]];exact h8.1
    ·rw[e2]at hj;replace hj:=Option.some.inj hj;rw[<-hj,show(⟨b,off,none⟩:Addr).add (i*2+1)=⟨b,off+i*2+1,none⟩from by simp[Addr.add,Nat.add_assoc]];exact h8.2) (zF0 l) (by omega) (by unfold maxLen;omega) (by omega) (Nat.zero_le _)
  have hR:zw w' 0 (.slice (some ⟨q,0,none⟩) (n+l.length) dB) (zBL n f g ++ l):=by
   unfold zw;rw[gA,zA9];exact bA
  obtain⟨nb,h1,h2⟩:=hR.own (by rw[gA];unfold maxLen;omega);have rA:q=nb:=by
   have:=(h2 (by rw[gA];exact Nat.add_pos_right n (Nat.pos_of_ne_zero iA))).1;simp only[Value.ownBlock]at this;injection this
  subst rA;refine⟨_,_,w',q,hr,h1,(zKX hg).mono ?_,fun _=>?_⟩
  ·intro j hj;rcases vA with h | ⟨h0,h⟩
   ·rw[h]at hj;cases hj
   ·rw[h,kA h0]at hj;injection hj with hj;exact⟨h0,hj.symm⟩
  ·rcases sA with⟨h0,h⟩ | h
   ·rw[kA h0]at h;injection h with h;exact Or.inl ⟨h0,h.symm⟩
   ·exact Or.inr ⟨by omega,cB⟩
end Go.Proofs.YtmgeglgboadfiaaGreatDoor
