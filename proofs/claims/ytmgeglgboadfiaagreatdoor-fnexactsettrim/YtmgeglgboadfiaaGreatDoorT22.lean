/- What impl.cloneWorld answers: a new world that holds the same. -/
import Derived.Test.YtmgeglgboadfiaaGreatDoorT21
import Derived.Test.YtmgeglgboadfiaaGreatDoorT12
set_option linter.unusedVariables false
set_option maxRecDepth 20000
set_option maxHeartbeats 4000000
namespace Go.Proofs.YtmgeglgboadfiaaGreatDoor
open Go.RowKit Go.Maps
theorem zC7(a:Option Addr)(n c:Nat)(xs:List Value)(w:World)(hl:xs.length=n*6)(gA:∀u∈xs,u.oneCell'=true)(hn:n<=1048576)
    (hc:0<n->∃b off,a=some ⟨b,off,none⟩/\∀j u,xs[j]?=some u->w.cell? ⟨b,off+j,none⟩=some u) :
    Calls Tryz.prog 169 #[.slice a n c] w fun e w'=>∃v',e = .returned v'/\w'.ownsRow w.heap.size 67 6 v' n xs/\Below w.heap.size w w'/\(n=0->∃a,v' = .slice a 0 0):=by
  have Hc:Hid(0<n->∃b off,a=some ⟨b,off,none⟩/\∀j u,xs[j]?=some u->w.cell? ⟨b,off+j,none⟩=some u):=hc;have Hl:Hid(xs.length=n*6/\∀u∈xs,u.oneCell'=true):=⟨hl,gA⟩;clear hc hl gA;have mA:=fun w=>Lib.run_eql_slice_nil(P:=Tryz.prog) w 34 67 a n c 0 0(by kernel_rfl)
  cases a with
  |none=>
    have lA:n=0:=by
      by_cases h:0<n
      · obtain⟨b,off,ha,_⟩:=Hc.out h;simp at ha
      · omega
    subst lA;have jA:xs = []:=List.eq_nil_of_length_eq_zero(by simpa using Hl.out.1);subst jA;go_enter Tryz.func169,Tryz.ntmps169;go_wp2;go_ret;exact⟨_,rfl,World.ownsRow_nil _ _ _ _,Below.refl _ _,fun _=>⟨_,rfl⟩⟩
  |some ad=>
    obtain⟨i0,hi,hzz⟩:=Option.map_eq_some_iff.1 zHo;simp only [Prod.mk.injEq] at hzz;obtain⟨hz,hs,hby⟩:=hzz;have HI:Hid(Tryz.prog.info? 67=some i0/\i0.zero=some(.agg #[.string ⟨#[]⟩,.int .i64 0,.int .i64 0,.int .i64 0,.int .i64 0,.slice none 0 0])/\i0.size=6/\i0.bytes=72):=⟨hi,hz,hs,hby⟩;have cA:Hid((w.alloc(.cells #[] 67)).ownsRow w.heap.size 67 6(.slice(some ⟨w.heap.size,0,none⟩) 0 0) 0 []):=World.ownsRow_made w #[] 0(Nat.le_refl _)(Nat.zero_le _)(by simp);clear hi hz hs hby;go_enter Tryz.func169,Tryz.ntmps169;go_wp2_with(first
      |(at_builtin;refine qJ rfl _ _ 34 rfl w.heap.size 67 i0(.agg #[.string ⟨#[]⟩,.int .i64 0,.int .i64 0,.int .i64 0,.int .i64 0,.slice none 0 0]) 6 72(by kernel_rfl) HI.out.1 HI.out.2.1 HI.out.2.2.1 HI.out.2.2.2 rfl(by decide) _ _ _ rfl cA.out(some ad) n c xs rfl Hl.out.1 Hl.out.2 ?c1 ?c3 ?c4 ?c5 ?_))
    case c1=>
      intro h0;obtain⟨b,off,ha,hcell⟩:=Hc.out h0;exact⟨b,off,ha,fun j u hj=>(((Below.refl _ _).alloc(Nat.le_refl _) _).cell(zD(hcell j u hj))).trans(hcell j u hj)⟩
    case c3=>unfold maxLen;omega
    case c4=>omega
    case c5=>simp
    intro v' w1 bA aA fA;have kA:Below w.heap.size w w1:=((Below.refl _ _).alloc(Nat.le_refl _) _).grown aA(by simp)(fun q hq=>by have:=cA.out.lt q hq;omega);have dA:w1.ownsRow w.heap.size 67 6 v' n xs:=(by simpa using bA);have eA:Hid(w1.ownsRow w.heap.size 67 6 v' n xs):=dA;have iA:Hid(n=0->v' = .slice(some ⟨w.heap.size,0,none⟩) 0 0):=fA;clear bA dA aA fA;go_wp2;go_ret;exact⟨v',rfl,eA.out,kA,fun e=>⟨_,iA.out e⟩⟩
theorem zBS(a:Option Addr)(n c:Nat)(xs:List Value)(w:World)(hl:xs.length=n*8)(gA:∀u∈xs,u.oneCell'=true)(hn:n<=1048576)
    (hc:0<n->∃b off,a=some ⟨b,off,none⟩/\∀j u,xs[j]?=some u->w.cell? ⟨b,off+j,none⟩=some u) :
    Calls Tryz.prog 170 #[.slice a n c] w fun e w'=>∃v',e = .returned v'/\w'.ownsRow w.heap.size 99 8 v' n xs/\Below w.heap.size w w'/\(n=0->∃a,v' = .slice a 0 0):=by
  have Hc:Hid(0<n->∃b off,a=some ⟨b,off,none⟩/\∀j u,xs[j]?=some u->w.cell? ⟨b,off+j,none⟩=some u):=hc;have Hl:Hid(xs.length=n*8/\∀u∈xs,u.oneCell'=true):=⟨hl,gA⟩;clear hc hl gA;have mA:=fun w=>Lib.run_eql_slice_nil(P:=Tryz.prog) w 35 99 a n c 0 0(by kernel_rfl)
  cases a with
  |none=>
    have lA:n=0:=by
      by_cases h:0<n
      · obtain⟨b,off,ha,_⟩:=Hc.out h;simp at ha
      · omega
    subst lA;have jA:xs = []:=List.eq_nil_of_length_eq_zero(by simpa using Hl.out.1);subst jA;go_enter Tryz.func170,Tryz.ntmps170;go_wp2;go_ret;exact⟨_,rfl,World.ownsRow_nil _ _ _ _,Below.refl _ _,fun _=>⟨_,rfl⟩⟩
  |some ad=>
    obtain⟨i0,hi,hzz⟩:=Option.map_eq_some_iff.1 zGh;simp only [Prod.mk.injEq] at hzz;obtain⟨hz,hs,hby⟩:=hzz;have HI:Hid(Tryz.prog.info? 99=some i0/\i0.zero=some(.agg #[.int .i64 0,.string ⟨#[]⟩,.string ⟨#[]⟩,.int .i64 0,.int .i64 0,.int .i64 0,.int .i64 0,.slice none 0 0])/\i0.size=8/\i0.bytes=96):=⟨hi,hz,hs,hby⟩;have cA:Hid((w.alloc(.cells #[] 99)).ownsRow w.heap.size 99 8(.slice(some ⟨w.heap.size,0,none⟩) 0 0) 0 []):=World.ownsRow_made w #[] 0(Nat.le_refl _)(Nat.zero_le _)(by simp);clear hi hz hs hby;go_enter Tryz.func170,Tryz.ntmps170;go_wp2_with(first
      |(at_builtin;refine qJ rfl _ _ 35 rfl w.heap.size 99 i0(.agg #[.int .i64 0,.string ⟨#[]⟩,.string ⟨#[]⟩,.int .i64 0,.int .i64 0,.int .i64 0,.int .i64 0,.slice none 0 0]) 8 96(by kernel_rfl) HI.out.1 HI.out.2.1 HI.out.2.2.1 HI.out.2.2.2 rfl(by decide) _ _ _ rfl cA.out(some ad) n c xs rfl Hl.out.1 Hl.out.2 ?c1 ?c3 ?c4 ?c5 ?_))
    case c1=>
      intro h0;obtain⟨b,off,ha,hcell⟩:=Hc.out h0;exact⟨b,off,ha,fun j u hj=>(((Below.refl _ _).alloc(Nat.le_refl _) _).cell(zD(hcell j u hj))).trans(hcell j u hj)⟩
    case c3=>unfold maxLen;omega
    case c4=>omega
    case c5=>simp
    intro v' w1 bA aA fA;have kA:Below w.heap.size w w1:=((Below.refl _ _).alloc(Nat.le_refl _) _).grown aA(by simp)(fun q hq=>by have:=cA.out.lt q hq;omega);have dA:w1.ownsRow w.heap.size 99 8 v' n xs:=(by simpa using bA);have eA:Hid(w1.ownsRow w.heap.size 99 8 v' n xs):=dA;have iA:Hid(n=0->v' = .slice(some ⟨w.heap.size,0,none⟩) 0 0):=fA;clear bA dA aA fA;go_wp2;go_ret;exact⟨v',rfl,eA.out,kA,fun e=>⟨_,iA.out e⟩⟩
theorem zHA(v0 v1 v2 v3:Value)(lo hi:Nat)(W:zH)(w:World)(h:zl w lo hi v0 v1 v2 v3 W)(tD:qE W.zRQ<=1048576)(bE:W.sn<=1048576)(eC:W.pn<=1048576)(tC:zDf W):Calls Tryz.prog 106 #[zz v0 v1 v2 v3 W] w(zJr W w):=by
  obtain⟨a0,c0,a1,c1,a2,c2,a3,c3,rfl,rfl,rfl,rfl⟩:=h.form;have Hp:=zU h;obtain⟨mA,h1S,h2S⟩:=h.zRS.values;obtain⟨fA,h1Z,h2Z⟩:=h.zRP.values;have tA:=zU h1S;have fB:=zU h1Z;have lC:=zU(show ∀i,i<W.sn->(mA i).oneCell'=true from fun i hi=>by obtain⟨-,a,c,e,-⟩:=(h1S i hi).1;rw [e];rfl);have pB:=zU(show ∀i,i<W.pn->(fA i).oneCell'=true from fun i hi=>by obtain⟨-,a,c,e,-⟩:=(h1Z i hi).1;rw [e];rfl);have gC:=zU h2S;have vB:=zU h2Z;have iD:=zU tC.1;have eE:=zU tC.2;have oE:=zU(show W.sn<=maxLen/\W.pn<=maxLen from⟨h.zRS.1,h.zRP.1⟩);clear h h1S h1Z h2S h2Z tC;have jF:∀A B:World,A=w.alloc(.cells #[.slice a0 W.zRQ.n c0,.slice a1 W.zRQ.hn c1,.int .i64 W.time,.int .i64 W.next,.slice a2 W.sn c2,.slice a3 W.pn c3] 37)->B=A.alloc(.cells #[.slice none 0 0,.slice none 0 0,.int .i64 0,.int .i64 0,.slice none 0 0,.slice none 0 0] 37)->zi B w.heap.size(.slice a0 W.zRQ.n c0)(.slice a1 W.zRQ.hn c1)(.int .i64 W.time)(.int .i64 W.next)(.slice a2 W.sn c2)(.slice a3 W.pn c3)/\zi B(w.heap.size+1)(.slice none 0 0)(.slice none 0 0)(.int .i64 0)(.int .i64 0)(.slice none 0 0)(.slice none 0 0)/\Below w.heap.size w B/\B.heap.size=w.heap.size+2:=by
    rintro A B ea eb;have b1:=zC w(.cells #[.slice a0 W.zRQ.n c0,.slice a1 W.zRQ.hn c1,.int .i64 W.time,.int .i64 W.next,.slice a2 W.sn c2,.slice a3 W.pn c3] 37);have x1:=zi.zRL w(.slice a0 W.zRQ.n c0)(.slice a1 W.zRQ.hn c1)(.int .i64 W.time)(.int .i64 W.next)(.slice a2 W.sn c2)(.slice a3 W.pn c3) 37;have z1:A.heap.size=w.heap.size+1:=(by rw [ea];exact World.size_alloc _ _);rw [<-ea] at b1 x1;have b2:=zC A(.cells #[.slice none 0 0,.slice none 0 0,.int .i64 0,.int .i64 0,.slice none 0 0,.slice none 0 0] 37);have x2:=zi.zRL A(.slice none 0 0)(.slice none 0 0)(.int .i64 0)(.int .i64 0)(.slice none 0 0)(.slice none 0 0) 37;have z2:B.heap.size=w.heap.size+2:=(by rw [eb,World.size_alloc,z1]);rw [<-eb,z1] at x2;rw [<-eb] at b2;exact⟨x1.zRJ b2,x2,zA b1 b2,z2⟩
  obtain⟨hx,hr,hbw,iC⟩:=jF _ _ rfl rfl;have HX:=zU hx;have HR:=zU hr;have vE:=zU iC;clear jF hx hr iC;go_enter Tryz.func106,Tryz.ntmps106;go_upto_region 1 with fail;generalize(w.alloc(.cells #[.slice a0 W.zRQ.n c0,.slice a1 W.zRQ.hn c1,.int .i64 W.time,.int .i64 W.next,.slice a2 W.sn c2,.slice a3 W.pn c3] 37)).alloc(.cells #[.slice none 0 0,.slice none 0 0,.int .i64 0,.int .i64 0,.slice none 0 0,.slice none 0 0] 37)=W0 at HX HR vE hbw ⊢
  go_cut [3](fun v wc=>∃(X:Nat)(b0:Option Addr)(d0:Nat)(b1:Option Addr)(d1:Nat)(aS:Option Addr)(cS:Nat)(aZ:Option Addr)(cZ:Nat)(l h bS bZ:Nat),v = .pointer(some ⟨X,0,none⟩)/\zi wc X(.slice b0 W.zRQ.n d0)(.slice b1 W.zRQ.hn d1)(.int .i64 W.time)(.int .i64 W.next)(.slice aS W.sn cS)(.slice aZ W.pn cZ)/\zt wc l h(.slice b0 W.zRQ.n d0)(.slice b1 W.zRQ.hn d1) W.zRQ/\(0<W.sn->aS=some ⟨bS,0,none⟩/\h<=bS)/\(0<W.pn->aZ=some ⟨bZ,0,none⟩/\h<=bZ/\(0<W.sn->bS<bZ))/\W.sn<=cS/\W.pn<=cZ/\yF wc bS wc.heap.size W.sn 0 W.zRS(fun _=>0) mA mA/\qg wc bZ wc.heap.size W.pn 0 W.zRP(fun _=>0) fA fA/\(X<l\/h<=X)/\(0<W.sn->X≠bS)/\(0<W.pn->X≠bZ)/\W0.heap.size<=X/\W0.heap.size<=l/\l<=h/\X<wc.heap.size/\h<=wc.heap.size/\yh wc 67 6(.slice aS W.sn cS) W.sn/\yh wc 99 8(.slice aZ W.pn cZ) W.pn/\Below W0.heap.size W0 wc)
  case first=>
    obtain⟨⟨x0,-⟩,⟨x1,-⟩,⟨x2,-⟩,⟨x3,-⟩,⟨x4,-⟩,⟨x5,-⟩⟩:=HX.out;refine wp_region_held_drew(S:=(fun w'=>w'.cell? ⟨w.heap.size,0,none⟩=some(.slice a0 W.zRQ.n c0)/\w'.cell? ⟨w.heap.size,1,none⟩=some(.slice a1 W.zRQ.hn c1)/\w'.cell? ⟨w.heap.size,2,none⟩=some(.int .i64 W.time)/\w'.cell? ⟨w.heap.size,3,none⟩=some(.int .i64 W.next)/\w'.cell? ⟨w.heap.size,4,none⟩=some(.slice a2 W.sn c2)/\w'.cell? ⟨w.heap.size,5,none⟩=some(.slice a3 W.pn c3)))(by kernel_rfl) ?_(fun hHeld=>?_)
    · (try dsimp only)
      go_keep
    have iB:Below W0.heap.size W0 W0.drew:=(Below.refl _ _).drew;clear x0 x1 x2 x3 x4 x5;generalize W0.drew=q0 at iB hHeld ⊢;refine tk 0(h:=tk 1(h:=tk 3(h:=tk 4(h:=tk 5(h:=tk 6(h:=tk 7(h:=tk 8(h:=tk 10(h:=tk 11(h:=?_))))))))));refine rd [2,14](rc(fun K hK=>?_)(rc(fun K hK=>?_) .nil))
    · go_simp
      go_at_call 168;refine(zBw _ _ lo hi W.zRQ _((Hp.out.zRQ.zRJ hbw).zRJ iB) tD).mono ?_;rintro e q1 ⟨u0,u1,rfl,kP1,hc1⟩;obtain⟨b0,d0,b1,d1,rfl,rfl⟩:=kP1.form;have zP:W0.heap.size<=q0.heap.size/\q0.heap.size<=q1.heap.size:=⟨iB.size,hc1.size⟩;have kB:Below W0.heap.size W0 q1:=zA iB hc1;have y1:=hc1.size;obtain⟨⟨x0,-⟩,⟨x1,-⟩,⟨x2,-⟩,⟨x3,-⟩,⟨x4,-⟩,⟨x5,-⟩⟩:=HX.out.zRJ kB
      (try go_wp2_with fail)
      refine hK.out _ _(by(try dsimp only);go_keep) ?_;clear hK K hHeld;intro hHeld
      try simp only [Act.put,s1,s2,s3]
      clear x0 x1 x2 x3 x4 x5;refine rd [9,14](rc(fun K hK=>?_)(rc(fun K hK=>?_) .nil))
      · go_simp
        go_at_call 169;refine(zC7 a2 W.sn c2(zCu W.zRS mA W.sn) _(zDC _ _ _)(zEW _ _ _ lC.out) bE(fun h0=>?_)).mono ?_
        · obtain⟨b,off,ha,hc⟩:=gC.out h0
          exact⟨b,off,ha,fun j u hj=>((zA hbw kB).cell(zD(hc j u hj))).trans(hc j u hj)⟩
        rintro e q2 ⟨v2,rfl,ho2,hc2,hzz2⟩;have jA:Below W0.heap.size W0 q2:=zA kB hc2;obtain⟨bS,aSn,cSn,rfl,nS,lS,kS2⟩:=zBs ho2 q2.heap.size(Nat.le_refl _);have zS:q1.heap.size<=q2.heap.size:=hc2.size;have iF:=yC ho2 hzz2;have pE:=kP1.zRJ hc2;have y2:=hc2.size;obtain⟨⟨x0,-⟩,⟨x1,-⟩,⟨x2,-⟩,⟨x3,-⟩,⟨x4,-⟩,⟨x5,-⟩⟩:=HX.out.zRJ jA
        (try go_wp2_with fail)
        refine hK.out _ _(by(try dsimp only);go_keep) ?_;clear hK K hHeld;intro hHeld
        try simp only [Act.put,s1,s2,s3]
        clear x0 x1 x2 x3 x4 x5;refine rd [12,14](rc(fun K hK=>?_)(rc(fun K hK=>?_) .nil))
        · go_simp
          go_at_call 170;refine(zBS a3 W.pn c3(zA7 W.zRP fA W.pn) _(zBj _ _ _)(zCY _ _ _ pB.out) eC(fun h0=>?_)).mono ?_
          · obtain⟨b,off,ha,hc⟩:=vB.out h0
            exact⟨b,off,ha,fun j u hj=>((zA hbw jA).cell(zD(hc j u hj))).trans(hc j u hj)⟩
          rintro e q3 ⟨v3,rfl,ho3,hc3,hzz3⟩;have dE:Below W0.heap.size W0 q3:=zA jA hc3;obtain⟨bZ,aZn,cZn,rfl,nZ,lZ,kZ3⟩:=zAg ho3 q3.heap.size(Nat.le_refl _);have zZ:q2.heap.size<=q3.heap.size:=hc3.size;have kF:=yC ho3 hzz3;have gG:=pE.zRJ hc3;have tF:=kS2.zRJ hc3;have sF:=iF.zRJ hc3;have y3:=hc3.size;obtain⟨⟨x0,-⟩,⟨x1,-⟩,⟨x2,-⟩,⟨x3,-⟩,⟨x4,-⟩,⟨x5,-⟩⟩:=HX.out.zRJ dE
          (try go_wp2_with fail)
          refine hK.out _ _(by(try dsimp only);go_keep) ?_;clear hK K hHeld;intro hHeld
          try simp only [Act.put,s1,s2,s3]
          clear x0 x1 x2 x3 x4 x5;refine tk 13(h:=?_);refine rd [14](rc(fun K hK=>?_) .nil);go_simp;have aB:=zC q3(.cells #[.slice none 0 0,.slice none 0 0,.int .i64 0,.int .i64 0,.slice none 0 0,.slice none 0 0] 37);have fC:Below W0.heap.size W0(q3.alloc(.cells #[.slice none 0 0,.slice none 0 0,.int .i64 0,.int .i64 0,.slice none 0 0,.slice none 0 0] 37)):=zA dE aB;have rD:zi(q3.alloc(.cells #[.slice none 0 0,.slice none 0 0,.int .i64 0,.int .i64 0,.slice none 0 0,.slice none 0 0] 37)) q3.heap.size(.slice none 0 0)(.slice none 0 0)(.int .i64 0)(.int .i64 0)(.slice none 0 0)(.slice none 0 0):=zi.zRL _ _ _ _ _ _ _ _;have zV:W0.heap.size<=q3.heap.size/\q3.heap.size+1=(q3.alloc(.cells #[.slice none 0 0,.slice none 0 0,.int .i64 0,.int .i64 0,.slice none 0 0,.slice none 0 0] 37)).heap.size:=⟨dE.size,(World.size_alloc _ _).symm⟩;have bF:=gG.zRJ aB;have nE:=tF.zRJ aB;have sE:=kZ3.zRJ aB;have gF:=sF.zRJ aB;have aF:=kF.zRJ aB;obtain⟨⟨x0,-⟩,⟨x1,-⟩,⟨x2,-⟩,⟨x3,-⟩,⟨x4,-⟩,⟨x5,-⟩⟩:=HX.out.zRJ fC
          (try go_wp2_with fail)
          refine hK.out _ _(by(try dsimp only);go_keep) ?_;clear hK K hHeld;intro hHeld
          try simp only [Act.put,s1,s2,s3]
          clear x0 x1 x2 x3 x4 x5;generalize q3.alloc(.cells #[.slice none 0 0,.slice none 0 0,.int .i64 0,.int .i64 0,.slice none 0 0,.slice none 0 0] 37)=q4 at fC zV bF nE sE rD gF aF hHeld aB ⊢;refine rd [15](rc(fun K hK=>?_) .nil);have hT:=zF.put6 q4(q3.heap.size)(.slice b0 W.zRQ.n d0)(.slice b1 W.zRQ.hn d1)(.int .i64 W.time)(.int .i64 W.next)(.slice aSn W.sn cSn)(.slice aZn W.pn cZn);have eA:Below W0.heap.size W0(put6 q4(q3.heap.size)(.slice b0 W.zRQ.n d0)(.slice b1 W.zRQ.hn d1)(.int .i64 W.time)(.int .i64 W.next)(.slice aSn W.sn cSn)(.slice aZn W.pn cZn)):=fC.trans(hT.zRJ(B:=W0.heap.size) fC.size(fun k e=>by omega));have kV:=rD.put(.slice b0 W.zRQ.n d0)(.slice b1 W.zRQ.hn d1)(.int .i64 W.time)(.int .i64 W.next)(.slice aSn W.sn cSn)(.slice aZn W.pn cZn);obtain⟨⟨y0,y0'⟩,⟨y1,y1'⟩,⟨y2,y2'⟩,⟨y3,y3'⟩,⟨y4,y4'⟩,⟨y5,y5'⟩⟩:=rD;obtain⟨⟨x0,-⟩,⟨x1,-⟩,⟨x2,-⟩,⟨x3,-⟩,⟨x4,-⟩,⟨x5,-⟩⟩:=HX.out.zRJ eA;go_simp
          (try go_wp2_with fail)
          refine hK.out _ _(by(try dsimp only);go_keep) ?_;clear hK K hHeld;intro hHeld
          try simp only [Act.put,s1,s2,s3]
          clear x0 x1 x2 x3 x4 x5;refine wpAnyH_done(by kernel_rfl) ?_ _;have bA:(put6 q4(q3.heap.size)(.slice b0 W.zRQ.n d0)(.slice b1 W.zRQ.hn d1)(.int .i64 W.time)(.int .i64 W.next)(.slice aSn W.sn cSn)(.slice aZn W.pn cZn)).heap.size=q4.heap.size:=(by simp only [World.size_setCell]);go_wp2_with fail
          go_meet
          case rel=>
            refine⟨_,_,_,_,_,_,_,_,_,_,_,bS,bZ,rfl,kV,bF.zRR hT(fun k e=>by omega),fun h0=>⟨(lS h0).1,by have:=lS h0;omega⟩,fun h0=>⟨(lZ h0).1,by have:=lZ h0;omega,fun h1=>by have:=lZ h0;have:=lS h1;omega⟩,nS,nZ,(nE.turned0 hT(fun q e h0 e2=>by have:=lS h0;omega)).weak(by rw [bA];omega),(sE.turned0 hT(fun q e h0 e2=>by have:=lZ h0;omega)).weak(by rw [bA];omega),by omega,fun h0=>by have:=lS h0;omega,fun h0=>by have:=lZ h0;omega,by omega,by omega,by omega,by rw [bA];omega,by rw [bA];omega,((((((gF.set _ _).set _ _).set _ _).set _ _).set _ _).set _ _),((((((aF.set _ _).set _ _).set _ _).set _ _).set _ _).set _ _),eA⟩
        · go_simp
          have sB:=zC q2(.cells #[.slice none 0 0,.slice none 0 0,.int .i64 0,.int .i64 0,.slice none 0 0,.slice none 0 0] 37);have kC:Below W0.heap.size W0(q2.alloc(.cells #[.slice none 0 0,.slice none 0 0,.int .i64 0,.int .i64 0,.slice none 0 0,.slice none 0 0] 37)):=zA jA sB;have cF:zi(q2.alloc(.cells #[.slice none 0 0,.slice none 0 0,.int .i64 0,.int .i64 0,.slice none 0 0,.slice none 0 0] 37)) q2.heap.size(.slice none 0 0)(.slice none 0 0)(.int .i64 0)(.int .i64 0)(.slice none 0 0)(.slice none 0 0):=zi.zRL _ _ _ _ _ _ _ _;have zV:W0.heap.size<=q2.heap.size/\q2.heap.size+1=(q2.alloc(.cells #[.slice none 0 0,.slice none 0 0,.int .i64 0,.int .i64 0,.slice none 0 0,.slice none 0 0] 37)).heap.size:=⟨jA.size,(World.size_alloc _ _).symm⟩;have lE:=pE.zRJ sB;have mE:=kS2.zRJ sB;have dF:=iF.zRJ sB;obtain⟨⟨x0,-⟩,⟨x1,-⟩,⟨x2,-⟩,⟨x3,-⟩,⟨x4,-⟩,⟨x5,-⟩⟩:=HX.out.zRJ kC
          (try go_wp2_with fail)
          refine hK.out _ _(by(try dsimp only);go_keep) ?_;clear hK K hHeld;intro hHeld
          try simp only [Act.put,s1,s2,s3]
          clear x0 x1 x2 x3 x4 x5;generalize q2.alloc(.cells #[.slice none 0 0,.slice none 0 0,.int .i64 0,.int .i64 0,.slice none 0 0,.slice none 0 0] 37)=q6 at kC zV lE mE cF dF hHeld sB ⊢;refine rd [12](rc(fun K hK=>?_) .nil);go_simp;go_at_call 170;refine(zBS a3 W.pn c3(zA7 W.zRP fA W.pn) _(zBj _ _ _)(zCY _ _ _ pB.out) eC(fun h0=>?_)).mono ?_
          · obtain⟨b,off,ha,hc⟩:=vB.out h0
            exact⟨b,off,ha,fun j u hj=>((zA hbw kC).cell(zD(hc j u hj))).trans(hc j u hj)⟩
          rintro e q7 ⟨v7,rfl,ho7,hc7,hzz7⟩;have eD:Below W0.heap.size W0 q7:=zA kC hc7;obtain⟨bZ,aZn,cZn,rfl,nZ,lZ,kZ7⟩:=zAg ho7 q7.heap.size(Nat.le_refl _);have zZ:q6.heap.size<=q7.heap.size:=hc7.size;have cG:=yC ho7 hzz7;have oF:=lE.zRJ hc7;have vF:=mE.zRJ hc7;have jE:=cF.zRJ hc7;have fG:=dF.zRJ hc7;have y7:=hc7.size;obtain⟨⟨x0,-⟩,⟨x1,-⟩,⟨x2,-⟩,⟨x3,-⟩,⟨x4,-⟩,⟨x5,-⟩⟩:=HX.out.zRJ eD
          (try go_wp2_with fail)
          refine hK.out _ _(by(try dsimp only);go_keep) ?_;clear hK K hHeld;intro hHeld
          try simp only [Act.put,s1,s2,s3]
          clear x0 x1 x2 x3 x4 x5;refine tk 13(h:=?_);refine rd [15](rc(fun K hK=>?_) .nil);have hT:=zF.put6 q7(q2.heap.size)(.slice b0 W.zRQ.n d0)(.slice b1 W.zRQ.hn d1)(.int .i64 W.time)(.int .i64 W.next)(.slice aSn W.sn cSn)(.slice aZn W.pn cZn);have eA:Below W0.heap.size W0(put6 q7(q2.heap.size)(.slice b0 W.zRQ.n d0)(.slice b1 W.zRQ.hn d1)(.int .i64 W.time)(.int .i64 W.next)(.slice aSn W.sn cSn)(.slice aZn W.pn cZn)):=eD.trans(hT.zRJ(B:=W0.heap.size) eD.size(fun k e=>by omega));have kV:=jE.put(.slice b0 W.zRQ.n d0)(.slice b1 W.zRQ.hn d1)(.int .i64 W.time)(.int .i64 W.next)(.slice aSn W.sn cSn)(.slice aZn W.pn cZn);obtain⟨⟨y0,y0'⟩,⟨y1,y1'⟩,⟨y2,y2'⟩,⟨y3,y3'⟩,⟨y4,y4'⟩,⟨y5,y5'⟩⟩:=jE;obtain⟨⟨x0,-⟩,⟨x1,-⟩,⟨x2,-⟩,⟨x3,-⟩,⟨x4,-⟩,⟨x5,-⟩⟩:=HX.out.zRJ eA;go_simp
          (try go_wp2_with fail)
          refine hK.out _ _(by(try dsimp only);go_keep) ?_;clear hK K hHeld;intro hHeld
          try simp only [Act.put,s1,s2,s3]
          clear x0 x1 x2 x3 x4 x5;refine wpAnyH_done(by kernel_rfl) ?_ _;have bA:(put6 q7(q2.heap.size)(.slice b0 W.zRQ.n d0)(.slice b1 W.zRQ.hn d1)(.int .i64 W.time)(.int .i64 W.next)(.slice aSn W.sn cSn)(.slice aZn W.pn cZn)).heap.size=q7.heap.size:=(by simp only [World.size_setCell]);go_wp2_with fail
          go_meet
          case rel=>
            refine⟨_,_,_,_,_,_,_,_,_,_,_,bS,bZ,rfl,kV,oF.zRR hT(fun k e=>by omega),fun h0=>⟨(lS h0).1,by have:=lS h0;omega⟩,fun h0=>⟨(lZ h0).1,by have:=lZ h0;omega,fun h1=>by have:=lZ h0;have:=lS h1;omega⟩,nS,nZ,(vF.turned0 hT(fun q e h0 e2=>by have:=lS h0;omega)).weak(by rw [bA];omega),(kZ7.turned0 hT(fun q e h0 e2=>by have:=lZ h0;omega)).weak(by rw [bA];omega),by omega,fun h0=>by have:=lS h0;omega,fun h0=>by have:=lZ h0;omega,by omega,by omega,by omega,by rw [bA];omega,by rw [bA];omega,((((((fG.set _ _).set _ _).set _ _).set _ _).set _ _).set _ _),((((((cG.set _ _).set _ _).set _ _).set _ _).set _ _).set _ _),eA⟩
      · go_simp
        have sC:=zC q1(.cells #[.slice none 0 0,.slice none 0 0,.int .i64 0,.int .i64 0,.slice none 0 0,.slice none 0 0] 37);have jC:Below W0.heap.size W0(q1.alloc(.cells #[.slice none 0 0,.slice none 0 0,.int .i64 0,.int .i64 0,.slice none 0 0,.slice none 0 0] 37)):=zA kB sC;have eF:zi(q1.alloc(.cells #[.slice none 0 0,.slice none 0 0,.int .i64 0,.int .i64 0,.slice none 0 0,.slice none 0 0] 37)) q1.heap.size(.slice none 0 0)(.slice none 0 0)(.int .i64 0)(.int .i64 0)(.slice none 0 0)(.slice none 0 0):=zi.zRL _ _ _ _ _ _ _ _;have zV:W0.heap.size<=q1.heap.size/\q1.heap.size+1=(q1.alloc(.cells #[.slice none 0 0,.slice none 0 0,.int .i64 0,.int .i64 0,.slice none 0 0,.slice none 0 0] 37)).heap.size:=⟨kB.size,(World.size_alloc _ _).symm⟩;have fF:=kP1.zRJ sC;obtain⟨⟨x0,-⟩,⟨x1,-⟩,⟨x2,-⟩,⟨x3,-⟩,⟨x4,-⟩,⟨x5,-⟩⟩:=HX.out.zRJ jC
        (try go_wp2_with fail)
        refine hK.out _ _(by(try dsimp only);go_keep) ?_;clear hK K hHeld;intro hHeld
        try simp only [Act.put,s1,s2,s3]
        clear x0 x1 x2 x3 x4 x5;generalize q1.alloc(.cells #[.slice none 0 0,.slice none 0 0,.int .i64 0,.int .i64 0,.slice none 0 0,.slice none 0 0] 37)=q9 at jC zV fF eF hHeld sC ⊢;refine rd [9](rc(fun K hK=>?_) .nil);go_simp;go_at_call 169;refine(zC7 a2 W.sn c2(zCu W.zRS mA W.sn) _(zDC _ _ _)(zEW _ _ _ lC.out) bE(fun h0=>?_)).mono ?_
        · obtain⟨b,off,ha,hc⟩:=gC.out h0
          exact⟨b,off,ha,fun j u hj=>((zA hbw jC).cell(zD(hc j u hj))).trans(hc j u hj)⟩
        rintro e dC ⟨bH,rfl,ho10,hc10,hzz10⟩;have pA:Below W0.heap.size W0 dC:=zA jC hc10;obtain⟨bS,aSn,cSn,rfl,nS,lS,kS10⟩:=zBs ho10 dC.heap.size(Nat.le_refl _);have zS:q9.heap.size<=dC.heap.size:=hc10.size;have oC:=yC ho10 hzz10;have oD:=fF.zRJ hc10;have vC:=eF.zRJ hc10;have mG:=hc10.size;obtain⟨⟨x0,-⟩,⟨x1,-⟩,⟨x2,-⟩,⟨x3,-⟩,⟨x4,-⟩,⟨x5,-⟩⟩:=HX.out.zRJ pA
        (try go_wp2_with fail)
        refine hK.out _ _(by(try dsimp only);go_keep) ?_;clear hK K hHeld;intro hHeld
        try simp only [Act.put,s1,s2,s3]
        clear x0 x1 x2 x3 x4 x5;refine rd [12](rc(fun K hK=>?_) .nil);go_simp;go_at_call 170;refine(zBS a3 W.pn c3(zA7 W.zRP fA W.pn) _(zBj _ _ _)(zCY _ _ _ pB.out) eC(fun h0=>?_)).mono ?_
        · obtain⟨b,off,ha,hc⟩:=vB.out h0
          exact⟨b,off,ha,fun j u hj=>((zA hbw pA).cell(zD(hc j u hj))).trans(hc j u hj)⟩
        rintro e sA ⟨tG,rfl,ho11,hc11,hzz11⟩;have bB:Below W0.heap.size W0 sA:=zA pA hc11;obtain⟨bZ,aZn,cZn,rfl,nZ,lZ,kZ11⟩:=zAg ho11 sA.heap.size(Nat.le_refl _);have zZ:dC.heap.size<=sA.heap.size:=hc11.size;have sD:=yC ho11 hzz11;have iE:=oD.zRJ hc11;have rC:=kS10.zRJ hc11;have nB:=vC.zRJ hc11;have fE:=oC.zRJ hc11;have nG:=hc11.size;obtain⟨⟨x0,-⟩,⟨x1,-⟩,⟨x2,-⟩,⟨x3,-⟩,⟨x4,-⟩,⟨x5,-⟩⟩:=HX.out.zRJ bB
        (try go_wp2_with fail)
        refine hK.out _ _(by(try dsimp only);go_keep) ?_;clear hK K hHeld;intro hHeld
        try simp only [Act.put,s1,s2,s3]
        clear x0 x1 x2 x3 x4 x5;refine tk 13(h:=?_);refine rd [15](rc(fun K hK=>?_) .nil);have hT:=zF.put6 sA(q1.heap.size)(.slice b0 W.zRQ.n d0)(.slice b1 W.zRQ.hn d1)(.int .i64 W.time)(.int .i64 W.next)(.slice aSn W.sn cSn)(.slice aZn W.pn cZn);have eA:Below W0.heap.size W0(put6 sA(q1.heap.size)(.slice b0 W.zRQ.n d0)(.slice b1 W.zRQ.hn d1)(.int .i64 W.time)(.int .i64 W.next)(.slice aSn W.sn cSn)(.slice aZn W.pn cZn)):=bB.trans(hT.zRJ(B:=W0.heap.size) bB.size(fun k e=>by omega));have kV:=nB.put(.slice b0 W.zRQ.n d0)(.slice b1 W.zRQ.hn d1)(.int .i64 W.time)(.int .i64 W.next)(.slice aSn W.sn cSn)(.slice aZn W.pn cZn);obtain⟨⟨y0,y0'⟩,⟨y1,y1'⟩,⟨y2,y2'⟩,⟨y3,y3'⟩,⟨y4,y4'⟩,⟨y5,y5'⟩⟩:=nB;obtain⟨⟨x0,-⟩,⟨x1,-⟩,⟨x2,-⟩,⟨x3,-⟩,⟨x4,-⟩,⟨x5,-⟩⟩:=HX.out.zRJ eA;go_simp
        (try go_wp2_with fail)
        refine hK.out _ _(by(try dsimp only);go_keep) ?_;clear hK K hHeld;intro hHeld
        try simp only [Act.put,s1,s2,s3]
        clear x0 x1 x2 x3 x4 x5;refine wpAnyH_done(by kernel_rfl) ?_ _;have bA:(put6 sA(q1.heap.size)(.slice b0 W.zRQ.n d0)(.slice b1 W.zRQ.hn d1)(.int .i64 W.time)(.int .i64 W.next)(.slice aSn W.sn cSn)(.slice aZn W.pn cZn)).heap.size=sA.heap.size:=(by simp only [World.size_setCell]);go_wp2_with fail
        go_meet
        case rel=>
          refine⟨_,_,_,_,_,_,_,_,_,_,_,bS,bZ,rfl,kV,iE.zRR hT(fun k e=>by omega),fun h0=>⟨(lS h0).1,by have:=lS h0;omega⟩,fun h0=>⟨(lZ h0).1,by have:=lZ h0;omega,fun h1=>by have:=lZ h0;have:=lS h1;omega⟩,nS,nZ,(rC.turned0 hT(fun q e h0 e2=>by have:=lS h0;omega)).weak(by rw [bA];omega),(kZ11.turned0 hT(fun q e h0 e2=>by have:=lZ h0;omega)).weak(by rw [bA];omega),by omega,fun h0=>by have:=lS h0;omega,fun h0=>by have:=lZ h0;omega,by omega,by omega,by omega,by rw [bA];omega,by rw [bA];omega,((((((fE.set _ _).set _ _).set _ _).set _ _).set _ _).set _ _),((((((sD.set _ _).set _ _).set _ _).set _ _).set _ _).set _ _),eA⟩
    · go_simp
      have oB:=zC q0(.cells #[.slice none 0 0,.slice none 0 0,.int .i64 0,.int .i64 0,.slice none 0 0,.slice none 0 0] 37);have dA:Below W0.heap.size W0(q0.alloc(.cells #[.slice none 0 0,.slice none 0 0,.int .i64 0,.int .i64 0,.slice none 0 0,.slice none 0 0] 37)):=zA iB oB;have mB:zi(q0.alloc(.cells #[.slice none 0 0,.slice none 0 0,.int .i64 0,.int .i64 0,.slice none 0 0,.slice none 0 0] 37)) q0.heap.size(.slice none 0 0)(.slice none 0 0)(.int .i64 0)(.int .i64 0)(.slice none 0 0)(.slice none 0 0):=zi.zRL _ _ _ _ _ _ _ _;have zV:W0.heap.size<=q0.heap.size/\q0.heap.size+1=(q0.alloc(.cells #[.slice none 0 0,.slice none 0 0,.int .i64 0,.int .i64 0,.slice none 0 0,.slice none 0 0] 37)).heap.size:=⟨iB.size,(World.size_alloc _ _).symm⟩;obtain⟨⟨x0,-⟩,⟨x1,-⟩,⟨x2,-⟩,⟨x3,-⟩,⟨x4,-⟩,⟨x5,-⟩⟩:=HX.out.zRJ dA
      (try go_wp2_with fail)
      refine hK.out _ _(by(try dsimp only);go_keep) ?_;clear hK K hHeld;intro hHeld
      try simp only [Act.put,s1,s2,s3]
      clear x0 x1 x2 x3 x4 x5;generalize q0.alloc(.cells #[.slice none 0 0,.slice none 0 0,.int .i64 0,.int .i64 0,.slice none 0 0,.slice none 0 0] 37)=q13 at dA zV mB hHeld oB ⊢;refine rd [2](rc(fun K hK=>?_) .nil);go_simp;go_at_call 168;refine(zBw _ _ lo hi W.zRQ _((Hp.out.zRQ.zRJ hbw).zRJ dA) tD).mono ?_;rintro e gD ⟨u0,u1,rfl,kP14,hc14⟩;obtain⟨b0,d0,b1,d1,rfl,rfl⟩:=kP14.form;have zP:W0.heap.size<=q13.heap.size/\q13.heap.size<=gD.heap.size:=⟨dA.size,hc14.size⟩;have cB:Below W0.heap.size W0 gD:=zA dA hc14;have dD:=mB.zRJ hc14;have aH:=hc14.size;obtain⟨⟨x0,-⟩,⟨x1,-⟩,⟨x2,-⟩,⟨x3,-⟩,⟨x4,-⟩,⟨x5,-⟩⟩:=HX.out.zRJ cB
      (try go_wp2_with fail)
      refine hK.out _ _(by(try dsimp only);go_keep) ?_;clear hK K hHeld;intro hHeld
      try simp only [Act.put,s1,s2,s3]
      clear x0 x1 x2 x3 x4 x5;refine rd [9](rc(fun K hK=>?_) .nil);go_simp;go_at_call 169;refine(zC7 a2 W.sn c2(zCu W.zRS mA W.sn) _(zDC _ _ _)(zEW _ _ _ lC.out) bE(fun h0=>?_)).mono ?_
      · obtain⟨b,off,ha,hc⟩:=gC.out h0
        exact⟨b,off,ha,fun j u hj=>((zA hbw cB).cell(zD(hc j u hj))).trans(hc j u hj)⟩
      rintro e mC ⟨lG,rfl,ho15,hc15,hzz15⟩;have vA:Below W0.heap.size W0 mC:=zA cB hc15;obtain⟨bS,aSn,cSn,rfl,nS,lS,kS15⟩:=zBs ho15 mC.heap.size(Nat.le_refl _);have zS:gD.heap.size<=mC.heap.size:=hc15.size;have aD:=yC ho15 hzz15;have mD:=kP14.zRJ hc15;have kD:=dD.zRJ hc15;have pG:=hc15.size;obtain⟨⟨x0,-⟩,⟨x1,-⟩,⟨x2,-⟩,⟨x3,-⟩,⟨x4,-⟩,⟨x5,-⟩⟩:=HX.out.zRJ vA
      (try go_wp2_with fail)
      refine hK.out _ _(by(try dsimp only);go_keep) ?_;clear hK K hHeld;intro hHeld
      try simp only [Act.put,s1,s2,s3]
      clear x0 x1 x2 x3 x4 x5;refine rd [12](rc(fun K hK=>?_) .nil);go_simp;go_at_call 170;refine(zBS a3 W.pn c3(zA7 W.zRP fA W.pn) _(zBj _ _ _)(zCY _ _ _ pB.out) eC(fun h0=>?_)).mono ?_
      · obtain⟨b,off,ha,hc⟩:=vB.out h0
        exact⟨b,off,ha,fun j u hj=>((zA hbw vA).cell(zD(hc j u hj))).trans(hc j u hj)⟩
      rintro e oA ⟨sG,rfl,ho16,hc16,hzz16⟩;have dB:Below W0.heap.size W0 oA:=zA vA hc16;obtain⟨bZ,aZn,cZn,rfl,nZ,lZ,kZ16⟩:=zAg ho16 oA.heap.size(Nat.le_refl _);have zZ:mC.heap.size<=oA.heap.size:=hc16.size;have bD:=yC ho16 hzz16;have nD:=mD.zRJ hc16;have lD:=kS15.zRJ hc16;have jB:=kD.zRJ hc16;have gE:=aD.zRJ hc16;have oG:=hc16.size;obtain⟨⟨x0,-⟩,⟨x1,-⟩,⟨x2,-⟩,⟨x3,-⟩,⟨x4,-⟩,⟨x5,-⟩⟩:=HX.out.zRJ dB
      (try go_wp2_with fail)
      refine hK.out _ _(by(try dsimp only);go_keep) ?_;clear hK K hHeld;intro hHeld
      try simp only [Act.put,s1,s2,s3]
      clear x0 x1 x2 x3 x4 x5;refine tk 13(h:=?_);refine rd [15](rc(fun K hK=>?_) .nil);have hT:=zF.put6 oA(q0.heap.size)(.slice b0 W.zRQ.n d0)(.slice b1 W.zRQ.hn d1)(.int .i64 W.time)(.int .i64 W.next)(.slice aSn W.sn cSn)(.slice aZn W.pn cZn);have eA:Below W0.heap.size W0(put6 oA(q0.heap.size)(.slice b0 W.zRQ.n d0)(.slice b1 W.zRQ.hn d1)(.int .i64 W.time)(.int .i64 W.next)(.slice aSn W.sn cSn)(.slice aZn W.pn cZn)):=dB.trans(hT.zRJ(B:=W0.heap.size) dB.size(fun k e=>by omega));have kV:=jB.put(.slice b0 W.zRQ.n d0)(.slice b1 W.zRQ.hn d1)(.int .i64 W.time)(.int .i64 W.next)(.slice aSn W.sn cSn)(.slice aZn W.pn cZn);obtain⟨⟨y0,y0'⟩,⟨y1,y1'⟩,⟨y2,y2'⟩,⟨y3,y3'⟩,⟨y4,y4'⟩,⟨y5,y5'⟩⟩:=jB;obtain⟨⟨x0,-⟩,⟨x1,-⟩,⟨x2,-⟩,⟨x3,-⟩,⟨x4,-⟩,⟨x5,-⟩⟩:=HX.out.zRJ eA;go_simp
      (try go_wp2_with fail)
      refine hK.out _ _(by(try dsimp only);go_keep) ?_;clear hK K hHeld;intro hHeld
      try simp only [Act.put,s1,s2,s3]
      clear x0 x1 x2 x3 x4 x5;refine wpAnyH_done(by kernel_rfl) ?_ _;have bA:(put6 oA(q0.heap.size)(.slice b0 W.zRQ.n d0)(.slice b1 W.zRQ.hn d1)(.int .i64 W.time)(.int .i64 W.next)(.slice aSn W.sn cSn)(.slice aZn W.pn cZn)).heap.size=oA.heap.size:=(by simp only [World.size_setCell]);go_wp2_with fail
      go_meet
      case rel=>
        refine⟨_,_,_,_,_,_,_,_,_,_,_,bS,bZ,rfl,kV,nD.zRR hT(fun k e=>by omega),fun h0=>⟨(lS h0).1,by have:=lS h0;omega⟩,fun h0=>⟨(lZ h0).1,by have:=lZ h0;omega,fun h1=>by have:=lZ h0;have:=lS h1;omega⟩,nS,nZ,(lD.turned0 hT(fun q e h0 e2=>by have:=lS h0;omega)).weak(by rw [bA];omega),(kZ16.turned0 hT(fun q e h0 e2=>by have:=lZ h0;omega)).weak(by rw [bA];omega),by omega,fun h0=>by have:=lS h0;omega,fun h0=>by have:=lZ h0;omega,by omega,by omega,by omega,by rw [bA];omega,by rw [bA];omega,((((((gE.set _ _).set _ _).set _ _).set _ _).set _ _).set _ _),((((((bD.set _ _).set _ _).set _ _).set _ _).set _ _).set _ _),eA⟩
  case rest=>
    obtain⟨X,b0,d0,b1,d1,aS,cS,aZ,cZ,l,h,bS,bZ,rfl,kV,kP,hS,hZ,nS,nZ,kS,kZ,hXl,hXS,hXZ,z1,z2,z3,z4,z5,rA,rB,hbc⟩:=hcut;have nC:=zU kV;have tE:=zU kP;have aC:=zU hS;have kA:=zU hZ;have dG:=hbw.size;have rG:=vE.out;have HS:=zU kS;have HZ:=zU kZ;have cD:=kS.lt;have tB:=kZ.lt;clear kV kP hS hZ kS kZ HX tD lC pB gC vB;obtain⟨⟨x0,-⟩,⟨x1,-⟩,⟨x2,-⟩,⟨x3,-⟩,⟨x4,-⟩,⟨x5,-⟩⟩:=nC.out;go_wp2;clear x0 x1 x2 x3 x4 x5
    go_loopw [4,5,25](fun _ _ i wr=>∃(k:Nat)(kb:Nat->Nat)(kv:Nat->Value),k<=W.sn/\i = .int .i64 k/\yF wr bS wc.heap.size W.sn k W.zRS kb kv mA/\zi wr X(.slice b0 W.zRQ.n d0)(.slice b1 W.zRQ.hn d1)(.int .i64 W.time)(.int .i64 W.next)(.slice aS W.sn cS)(.slice aZ W.pn cZ)/\wc.heap.size<=wr.heap.size/\zt wr l h(.slice b0 W.zRQ.n d0)(.slice b1 W.zRQ.hn d1) W.zRQ/\qg wr bZ wc.heap.size W.pn 0 W.zRP(fun _=>0) fA fA/\(Below W0.heap.size W0 wr/\yh wr 67 6(.slice aS W.sn cS) W.sn/\yh wr 99 8(.slice aZ W.pn cZ) W.pn/\∀j,j<k->yh wr 61 2(kv j)(W.zRS j).dn))(fun _ _ i _=>W.sn - (intOf i).toNat)
    case atStart=>exact⟨0,_,_,Nat.zero_le _,rfl,HS.out,nC.out,Nat.le_refl _,tE.out,HZ.out,hbc,rA,rB,fun j hj=>absurd hj(Nat.not_lt_zero _)⟩
    case round=>
      obtain⟨k,kb,kv,hk,rfl,hh,hI⟩:=hrel;have Hh:=zU hh;have HI:=zU hI;clear hh hI;by_cases cA:k<W.sn
      · have pD:(k:Int)<(W.sn:Int):=by omega
        have bG:=HI.out.2.1;have aG:=Hh.out.lt(by omega);obtain rfl:=(aC.out(by omega)).1;obtain⟨-,da,dc,hcv,-⟩:=id(tA.out k cA).1;have hD:=(tA.out k cA).1;rw [hcv] at hD;have HD:=zU hD;clear hD;obtain⟨⟨h0,g0⟩,⟨h1,g1⟩,⟨h2,g2⟩,⟨h3,g3⟩,⟨h4,g4⟩,⟨h5,g5⟩⟩:=Hh.out.zRc k cA;rw [if_neg(by omega),hcv] at h5;obtain⟨⟨x0,-⟩,⟨x1,-⟩,⟨x2,-⟩,⟨x3,-⟩,⟨x4,-⟩,⟨x5,-⟩⟩:=HI.out.1;have ha:=zC wr(.cells #[.string(W.zRS k).name,.int .i64(W.zRS k).origin,.int .i64(W.zRS k).zRT,.int .i64(W.zRS k).rs,.int .i64(W.zRS k).rb,.slice da(W.zRS k).dn dc] 67);have hy:=zi.zRL wr(.string(W.zRS k).name)(.int .i64(W.zRS k).origin)(.int .i64(W.zRS k).zRT)(.int .i64(W.zRS k).rs)(.int .i64(W.zRS k).rb)(.slice da(W.zRS k).dn dc) 67;have pC:(wr.alloc(.cells #[.string(W.zRS k).name,.int .i64(W.zRS k).origin,.int .i64(W.zRS k).zRT,.int .i64(W.zRS k).rs,.int .i64(W.zRS k).rb,.slice da(W.zRS k).dn dc] 67)).heap.size=wr.heap.size+1:=World.size_alloc _ _;have HY:=zU hy;have HA:=zU ha;clear hy;go_wp2_with fail;clear h0 g0 h1 g1 h2 g2 h3 g3 h4 g4 h5 g5 x0 x1 x2 x3 x4 x5;have gA:=zU(Hh.out.zRJ HA.out);have bC:=zA hbw(zA HI.out.2.2.2.2.1 HA.out);have cC:=zU(HD.out.zRJ bC);have iA:=zU(HI.out.1.zRJ HA.out);have hV:wr.heap.size<wr.heap.size+1:=(by omega);generalize wr.alloc(.cells #[.string(W.zRS k).name,.int .i64(W.zRS k).origin,.int .i64(W.zRS k).zRT,.int .i64(W.zRS k).rs,.int .i64(W.zRS k).rb,.slice da(W.zRS k).dn dc] 67)=W1 at HY HA gA bC cC iA pC ⊢;obtain⟨⟨x0,-⟩,⟨x1,-⟩,⟨x2,-⟩,⟨x3,-⟩,⟨x4,-⟩,⟨x5,-⟩⟩:=iA.out;obtain⟨⟨y0,-⟩,⟨y1,-⟩,⟨y2,-⟩,⟨y3,-⟩,⟨y4,-⟩,⟨y5,-⟩⟩:=HY.out;obtain⟨⟨h0,g0⟩,⟨h1,g1⟩,⟨h2,g2⟩,⟨h3,g3⟩,⟨h4,g4⟩,⟨h5,g5⟩⟩:=gA.out.zRc k cA;rw [if_neg(by omega),hcv] at h5;have e1:X≠bS:=hXS(by omega);have lF:=e1.symm;have e2:wr.heap.size≠bS:=(by omega);have jG:=e2.symm;go_region_held3(fun w'=>w'.cell? ⟨X,4,none⟩=some(.slice(some ⟨bS,0,none⟩) W.sn cS)/\w'.cell? ⟨wr.heap.size,5,none⟩=some(.slice da(W.zRS k).dn dc))(go_keep)
          (first
            |(go_at_call 171
               refine(zD2 _(W.zRS k).dn lo hi(W.zRS k).ds(W.zRS k).db _(cC.out.zRJ(Below.refl _ _).drew)(iD.out k cA)).mono ?_;rintro e w2 ⟨⟨nv,nb,rfl,hrb2,hp2,hpl2⟩,jA⟩;have aA:=zK jA;obtain⟨_,na,nc,rfl,_⟩:=id hp2;obtain⟨⟨z0,-⟩,⟨z1,-⟩,⟨z2,-⟩,⟨z3,-⟩,⟨z4,-⟩,⟨z5,-⟩⟩:=iA.out.zRJ aA;obtain⟨⟨v0,-⟩,⟨v1,-⟩,⟨v2,-⟩,⟨v3,-⟩,⟨v4,-⟩,⟨v5,-⟩⟩:=HY.out.zRJ aA;obtain⟨⟨p0,p0'⟩,⟨p1,p1'⟩,⟨p2,p2'⟩,⟨p3,p3'⟩,⟨p4,p4'⟩,⟨p5,p5'⟩⟩:=(gA.out.zRJ aA).zRc k cA;rw [if_neg(by omega),hcv] at p5))
        have mF:=aA.size;have cE:=zU(gA.out.next cA(by omega) aA hp2(fun h0=>by have:=hpl2 h0;have hd:W1.drew.heap.size=W1.heap.size:=rfl;omega));have hT:=zF.put w2 bS(k*6+5)(.slice na(W.zRS k).dn nc);have hB:=zA HA.out aA;have aE:=zU(HI.out.2.2.2.1);have lA:=zU(HI.out.2.2.2.2.2);have jD:=zU hrb2;clear hrb2;go_wp2;go_roundw
        case rel=>
          refine⟨k+1,_,_,by omega,by go_num,cE.out,(iA.out.zRJ aA).zRR hT(fun e=>(hXS(by omega)) e),by simp only [World.size_setCell];omega,(HI.out.2.2.1.zRJ hB).zRR hT(fun q e=>by have:=(aC.out(by omega)).2;omega),(aE.out.zRJ hB).zRR hT(fun q e=>⟨fun h0 e2=>by have:=(kA.out h0).2.2(by omega);omega,by omega⟩)(Nat.zero_le _),(zA HI.out.2.2.2.2.1 hB).setCell(by show W0.heap.size<=bS;have:=(aC.out(by omega)).2;omega) _,(lA.out.1.zRJ hB).set _ _,(lA.out.2.1.zRJ hB).set _ _,fun j hj=>?_⟩;by_cases e:j=k
          · subst e
            simp only [if_true];exact jD.out.set _ _
          · simp only [if_neg e]
            exact((lA.out.2.2 j(by omega)).zRJ hB).set _ _
        case measure=>simp [intOf];omega
      · obtain rfl:k=W.sn:=by omega
        generalize wr=wA at Hh HI ⊢;generalize kb=kbS at Hh;generalize kv=kvS at Hh HI;have eG:=HI.out.2.1;have pF:=zU Hh.out;have rF:=zU(show ∀j,j<W.sn->0<(W.zRS j).dn->wc.heap.size<=kbS j/\kbS j<wA.heap.size from Hh.out.zRY);have lB:=zU HI.out.1;have fD:=zU HI.out.2.2.1;have rE:=zU(HI.out.2.2.2.1.weak eG);have vD:=HI.out.2.2.2.2.1;have eB:=zU HI.out.2.2.2.2.2;clear Hh HI HZ HS nC tE hbc;have HZ:=rE;clear rE;obtain⟨⟨x0,-⟩,⟨x1,-⟩,⟨x2,-⟩,⟨x3,-⟩,⟨x4,-⟩,⟨x5,-⟩⟩:=lB.out;go_wp2;clear x0 x1 x2 x3 x4 x5
        go_loopw [6,7,42](fun _ _ i wr=>∃(k:Nat)(kb:Nat->Nat)(kv:Nat->Value),k<=W.pn/\i = .int .i64 k/\qg wr bZ wA.heap.size W.pn k W.zRP kb kv fA/\zi wr X(.slice b0 W.zRQ.n d0)(.slice b1 W.zRQ.hn d1)(.int .i64 W.time)(.int .i64 W.next)(.slice aS W.sn cS)(.slice aZ W.pn cZ)/\wA.heap.size<=wr.heap.size/\zt wr l h(.slice b0 W.zRQ.n d0)(.slice b1 W.zRQ.hn d1) W.zRQ/\yF wr bS wc.heap.size W.sn W.sn W.zRS kbS kvS mA/\(Below W0.heap.size W0 wr/\yh wr 67 6(.slice aS W.sn cS) W.sn/\yh wr 99 8(.slice aZ W.pn cZ) W.pn/\(∀j,j<W.sn->yh wr 61 2(kvS j)(W.zRS j).dn)/\∀j,j<k->yh wr 61 2(kv j)(W.zRP j).dn))(fun _ _ i _=>W.pn - (intOf i).toNat)
        case atStart=>exact⟨0,_,_,Nat.zero_le _,rfl,HZ.out,lB.out,Nat.le_refl _,fD.out,pF.out,vD,eB.out.1,eB.out.2.1,eB.out.2.2,fun j hj=>absurd hj(Nat.not_lt_zero _)⟩
        case round=>
          obtain⟨k,kb,kv,hk,rfl,hh,hI⟩:=hrel;have Hh:=zU hh;have HI:=zU hI;clear hh hI;by_cases cA:k<W.pn
          · have pD:(k:Int)<(W.pn:Int):=by omega
            have bG:=HI.out.2.1;have aG:=Hh.out.lt(by omega);obtain rfl:=(kA.out(by omega)).1;obtain⟨-,da,dc,hcv,-⟩:=id(fB.out k cA).1;have hD:=(fB.out k cA).1;rw [hcv] at hD;have HD:=zU hD;clear hD;obtain⟨⟨h0,g0⟩,⟨h1,g1⟩,⟨h2,g2⟩,⟨h3,g3⟩,⟨h4,g4⟩,⟨h5,g5⟩,⟨h6,g6⟩,⟨h7,g7⟩⟩:=Hh.out.zRc k cA;rw [if_neg(by omega),hcv] at h7;obtain⟨⟨x0,-⟩,⟨x1,-⟩,⟨x2,-⟩,⟨x3,-⟩,⟨x4,-⟩,⟨x5,-⟩⟩:=HI.out.1;have ha:=zC wr(.cells #[.int .i64(W.zRP k).id,.string(W.zRP k).name,.string(W.zRP k).set,.int .i64(W.zRP k).zRT,.int .i64(W.zRP k).time,.int .i64(W.zRP k).rs,.int .i64(W.zRP k).rb,.slice da(W.zRP k).dn dc] 99);have hy:=zCp.zRL wr(.int .i64(W.zRP k).id)(.string(W.zRP k).name)(.string(W.zRP k).set)(.int .i64(W.zRP k).zRT)(.int .i64(W.zRP k).time)(.int .i64(W.zRP k).rs)(.int .i64(W.zRP k).rb)(.slice da(W.zRP k).dn dc) 99;have pC:(wr.alloc(.cells #[.int .i64(W.zRP k).id,.string(W.zRP k).name,.string(W.zRP k).set,.int .i64(W.zRP k).zRT,.int .i64(W.zRP k).time,.int .i64(W.zRP k).rs,.int .i64(W.zRP k).rb,.slice da(W.zRP k).dn dc] 99)).heap.size=wr.heap.size+1:=World.size_alloc _ _;have HY:=zU hy;have HA:=zU ha;clear hy;go_wp2_with fail;clear h0 g0 h1 g1 h2 g2 h3 g3 h4 g4 h5 g5 h6 g6 h7 g7 x0 x1 x2 x3 x4 x5;have gA:=zU(Hh.out.zRJ HA.out);have bC:=zA hbw(zA HI.out.2.2.2.2.1 HA.out);have cC:=zU(HD.out.zRJ bC);have iA:=zU(HI.out.1.zRJ HA.out);have hV:wr.heap.size<wr.heap.size+1:=(by omega);generalize wr.alloc(.cells #[.int .i64(W.zRP k).id,.string(W.zRP k).name,.string(W.zRP k).set,.int .i64(W.zRP k).zRT,.int .i64(W.zRP k).time,.int .i64(W.zRP k).rs,.int .i64(W.zRP k).rb,.slice da(W.zRP k).dn dc] 99)=W1 at HY HA gA bC cC iA pC ⊢;obtain⟨⟨x0,-⟩,⟨x1,-⟩,⟨x2,-⟩,⟨x3,-⟩,⟨x4,-⟩,⟨x5,-⟩⟩:=iA.out;obtain⟨⟨y0,-⟩,⟨y1,-⟩,⟨y2,-⟩,⟨y3,-⟩,⟨y4,-⟩,⟨y5,-⟩,⟨y6,-⟩,⟨y7,-⟩⟩:=HY.out;obtain⟨⟨h0,g0⟩,⟨h1,g1⟩,⟨h2,g2⟩,⟨h3,g3⟩,⟨h4,g4⟩,⟨h5,g5⟩,⟨h6,g6⟩,⟨h7,g7⟩⟩:=gA.out.zRc k cA;rw [if_neg(by omega),hcv] at h7;have e1:X≠bZ:=hXZ(by omega);have lF:=e1.symm;have e2:wr.heap.size≠bZ:=(by omega);have jG:=e2.symm;go_region_held3(fun w'=>w'.cell? ⟨X,5,none⟩=some(.slice(some ⟨bZ,0,none⟩) W.pn cZ)/\w'.cell? ⟨wr.heap.size,7,none⟩=some(.slice da(W.zRP k).dn dc))(go_keep)
              (first
                |(go_at_call 171
                   refine(zD2 _(W.zRP k).dn lo hi(W.zRP k).ds(W.zRP k).db _(cC.out.zRJ(Below.refl _ _).drew)(eE.out k cA)).mono ?_;rintro e w2 ⟨⟨nv,nb,rfl,hrb2,hp2,hpl2⟩,jA⟩;have aA:=zK jA;obtain⟨_,na,nc,rfl,_⟩:=id hp2;obtain⟨⟨z0,-⟩,⟨z1,-⟩,⟨z2,-⟩,⟨z3,-⟩,⟨z4,-⟩,⟨z5,-⟩⟩:=iA.out.zRJ aA;obtain⟨⟨v0,-⟩,⟨v1,-⟩,⟨v2,-⟩,⟨v3,-⟩,⟨v4,-⟩,⟨v5,-⟩,⟨v6,-⟩,⟨v7,-⟩⟩:=HY.out.zRJ aA;obtain⟨⟨p0,p0'⟩,⟨p1,p1'⟩,⟨p2,p2'⟩,⟨p3,p3'⟩,⟨p4,p4'⟩,⟨p5,p5'⟩,⟨p6,p6'⟩,⟨p7,p7'⟩⟩:=(gA.out.zRJ aA).zRc k cA;rw [if_neg(by omega),hcv] at p7))
            have mF:=aA.size;have cE:=zU(gA.out.next cA(by omega) aA hp2(fun h0=>by have:=hpl2 h0;have hd:W1.drew.heap.size=W1.heap.size:=rfl;omega));have hT:=zF.put w2 bZ(k*8+7)(.slice na(W.zRP k).dn nc);have hB:=zA HA.out aA;have aE:=zU(HI.out.2.2.2.1);have lA:=zU(HI.out.2.2.2.2.2);have jD:=zU hrb2;clear hrb2;go_wp2;go_roundw
            case rel=>
              refine⟨k+1,_,_,by omega,by go_num,cE.out,(iA.out.zRJ aA).zRR hT(fun e=>(hXZ(by omega)) e),by simp only [World.size_setCell];omega,(HI.out.2.2.1.zRJ hB).zRR hT(fun q e=>by have:=(kA.out(by omega)).2;omega),(aE.out.zRJ hB).zRR hT(fun q e=>⟨fun h0 e2=>by have:=(kA.out(by omega)).2.2 h0;omega,by omega⟩)(Nat.le_refl _),(zA HI.out.2.2.2.2.1 hB).setCell(by show W0.heap.size<=bZ;have:=(kA.out(by omega)).2;omega) _,(lA.out.1.zRJ hB).set _ _,(lA.out.2.1.zRJ hB).set _ _,fun j hj=>((lA.out.2.2.1 j hj).zRJ hB).set _ _,fun j hj=>?_⟩;by_cases e:j=k
              · subst e
                simp only [if_true];exact jD.out.set _ _
              · simp only [if_neg e]
                exact((lA.out.2.2.2 j(by omega)).zRJ hB).set _ _
            case measure=>simp [intOf];omega
          · obtain rfl:k=W.pn:=by omega
            have nA:=HI.out.2.2.2.2.1;have kE:=zU(HR.out.zRJ nA);obtain⟨⟨x0,-⟩,⟨x1,-⟩,⟨x2,-⟩,⟨x3,-⟩,⟨x4,-⟩,⟨x5,-⟩⟩:=HI.out.1;obtain⟨⟨r0,r0'⟩,⟨r1,r1'⟩,⟨r2,r2'⟩,⟨r3,r3'⟩,⟨r4,r4'⟩,⟨r5,r5'⟩⟩:=kE.out;go_wp2;have hT:=zF.put6 wr(w.heap.size+1)(.slice b0 W.zRQ.n d0)(.slice b1 W.zRQ.hn d1)(.int .i64 W.time)(.int .i64 W.next)(.slice aS W.sn cS)(.slice aZ W.pn cZ);have gB:=kE.out.put(.slice b0 W.zRQ.n d0)(.slice b1 W.zRQ.hn d1)(.int .i64 W.time)(.int .i64 W.next)(.slice aS W.sn cS)(.slice aZ W.pn cZ);have iG:=(HI.out.2.2.2.1.own oE.out.1(fun h0=>(aC.out h0).1) nS(fun i hi=>(tA.out i hi).2));have nF:=(Hh.out.own oE.out.2(fun h0=>(kA.out h0).1) nZ(fun i hi=>(fB.out i hi).2));have kG:=Hh.out.zRY;have iC:(put6 wr(w.heap.size+1)(.slice b0 W.zRQ.n d0)(.slice b1 W.zRQ.hn d1)(.int .i64 W.time)(.int .i64 W.next)(.slice aS W.sn cS)(.slice aZ W.pn cZ)).heap.size=wr.heap.size:=(by simp only [World.size_setCell]);have vG:=HI.out.2.1;have zS:∀q,zCA bS kbS W.sn W.zRS q->h<=q/\q<wA.heap.size/\(q<wc.heap.size->0<W.sn/\q=bS):=by
              rintro q(⟨h0,rfl⟩ | ⟨i,hi,h0,rfl⟩)
              · exact⟨(aC.out h0).2,by have:=cD h0;omega,fun _=>⟨h0,rfl⟩⟩
              · have:=rF.out i hi h0;exact⟨by omega,by omega,fun hx=>by omega⟩
            have zZ:∀q,zB6 bZ kb W.pn W.zRP q->h<=q/\q<wr.heap.size/\(q<wA.heap.size->0<W.pn/\q=bZ):=by
              rintro q(⟨h0,rfl⟩ | ⟨i,hi,h0,rfl⟩)
              · exact⟨(kA.out h0).2.1,by have:=tB h0;omega,fun _=>⟨h0,rfl⟩⟩
              · have:=kG i hi h0;exact⟨by omega,by omega,fun hx=>by omega⟩
            refine bodyPost_ret(v:=.agg #[.slice b0 W.zRQ.n d0,.slice b1 W.zRQ.hn d1,.int .i64 W.time,.int .i64 W.next,.slice aS W.sn cS,.slice aZ W.pn cZ])(by simp [results,Tryz.results106,go_sem,gB.1.1,gB.2.1.1,gB.2.2.1.1,gB.2.2.2.1.1,gB.2.2.2.2.1.1,gB.2.2.2.2.2.1]) rfl ⟨_,_,_,_,rfl,?_,?_⟩
            · refine⟨fun q=>l<=q/\q<h,fun q=>zCA bS kbS W.sn W.zRS q,fun q=>zB6 bZ kb W.pn W.zRP q,⟨?_,?_,?_,?_,?_,?_⟩,?_⟩
              · exact(HI.out.2.2.1.isIn(S:=fun q=>l<=q/\q<h)(fun k h1 h2=>⟨h1,h2⟩)).zRR hT(fun k hk e=>by omega)
              · exact zAc.put6 ⟨bS,kbS,kvS,iG,HI.out.2.2.2.1.zRW,fun q hq=>hq,HI.out.2.2.2.2.2.1,HI.out.2.2.2.2.2.2.2.1⟩ _ _ _ _ _ _ _(fun e=>by have:=zS _ e;omega)
              · exact yx.put6 ⟨bZ,kb,kv,nF,Hh.out.zRW,fun q hq=>hq,HI.out.2.2.2.2.2.2.1,HI.out.2.2.2.2.2.2.2.2⟩ _ _ _ _ _ _ _(fun e=>by have:=zZ _ e;omega)
              · exact fun k hk e=>by have:=zS k e;omega
              · exact fun k hk e=>by have:=zZ k e;omega
              · intro k hk e
                have h1:=zS k hk;have h2:=(zZ k e).2.2 h1.2.1;have h3:=h1.2.2(by have:=tB h2.1;omega);have:=(kA.out h2.1).2.2 h3.1;omega
              · intro k hk
                rw [iC];rcases hk with hk | hk | hk
                · omega
                · have:=zS k hk;omega
                · have:=zZ k hk;omega
            · exact(zA hbw nA).trans(hT.zRJ(B:=w.heap.size)(zA hbw nA).size(fun k e=>by omega))
end Go.Proofs.YtmgeglgboadfiaaGreatDoor
