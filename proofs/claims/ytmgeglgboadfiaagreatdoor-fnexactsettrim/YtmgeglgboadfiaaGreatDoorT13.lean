/- What impl.snapsById and impl.namesApart answer. -/
import Derived.Test.YtmgeglgboadfiaaGreatDoorT12
set_option linter.unusedVariables false
set_option maxRecDepth 20000
set_option maxHeartbeats 4000000
namespace Go.Proofs.YtmgeglgboadfiaaGreatDoor
open Go.RowKit Go.Maps
def zNT(n:Nat)(f:Nat->zm):Prop:=∀i,i<n->(Lit.int .i64(f i).id).wf=true
theorem zI7(v0 v1 v2 v3:Value)(lo hi:Nat)(W:zH)(w:World)(h:zl w lo hi v0 v1 v2 v3 W)(hn:W.pn<=20)(nA:zNT W.pn W.zRP) :
  Calls Tryz.prog 179 #[zz v0 v1 v2 v3 W] w fun e w'=>∃vd,e = .returned(.map(some(w.heap.size+1)))/\zCk w' W(w.heap.size+1) W.pn vd/\zEa w lo hi W.pn W.zRP vd/\Below w.heap.size w w':=by
 have Hp:=zB h;have rA:=zB nA;obtain⟨m1,a,c,rfl,mc,-⟩:=id h.zRP;unfold maxLen at m1;obtain⟨vd,hvd,hcs⟩:=h.zRP.vals;have tA:=zB hvd;have pA:=zB hcs;clear h hvd hcs nA;have ha:=zC w(.cells #[v0,v1,.int .i64 W.time,.int .i64 W.next,v2,.slice a W.pn c] 37);have HB:=zB(zi.zRL w v0 v1(.int .i64 W.time)(.int .i64 W.next) v2(.slice a W.pn c) 37);have gA:(w.alloc(.cells #[v0,v1,.int .i64 W.time,.int .i64 W.next,v2,.slice a W.pn c] 37)).heap.size=w.heap.size+1:=World.size_alloc _ _;have hm:=World.ownsMap_made(w.alloc(.cells #[v0,v1,.int .i64 W.time,.int .i64 W.next,v2,.slice a W.pn c] 37)) Tryz.prog 2 zCH;rw [gA] at hm;have HM:=zB hm;have jA:=zB(HB.out.zRJ(zC _(.map #[] 0)));have kA:=zB(zA ha(zC _(.map #[] 0)));have aB:=@run_makeMap Tryz.prog;obtain⟨⟨x0,-⟩,⟨x2,-⟩,⟨x4,-⟩,⟨x6,-⟩,⟨x8,-⟩,⟨x10,-⟩⟩:=jA.out;clear hm;go_enter Tryz.func179,Tryz.ntmps179;go_wp2;clear x0 x2 x4 x6 x8 x10 ha
 go_loopw [10](fun i wr=>∃k:Nat,k<=W.pn/\i = .int .i64 k/\zCk wr W(w.heap.size+1) k vd/\Below w.heap.size w wr/\w.heap.size+2<=wr.heap.size)(fun i _=>W.pn - (intOf i).toNat)
 case atStart=>exact⟨0,Nat.zero_le _,rfl,HM.out,kA.out,by rw [World.size_alloc,gA];omega⟩
 case round=>
  clear HM jA kA HB gA;obtain⟨k,hk,rfl,hown,hb,hz⟩:=hrel;have cA:=zB hown;clear hown;by_cases mA:k<W.pn
  ·have vA:(k:Int)<(W.pn:Int):=(by omega);obtain⟨b,off,rfl,hs0⟩:=pA.out k mA;have aA:=hs0.zRJ hb;obtain⟨-,ad,cd,hvk,-,-⟩:=id aA.zRX;have oA:=zB hvk;rw [hvk] at aA;clear hvk hs0;have fA:=zC wr(.cells #[.int .i64(W.zRP k).id,.string(W.zRP k).name,.string(W.zRP k).set,.int .i64(W.zRP k).zRT,.int .i64(W.zRP k).time,.int .i64(W.zRP k).rs,.int .i64(W.zRP k).rb,.slice ad(W.zRP k).dn cd] 99);have sA:=zB(zCK.zRL wr(.int .i64(W.zRP k).id)(.string(W.zRP k).name)(.string(W.zRP k).set)(.int .i64(W.zRP k).zRT)(.int .i64(W.zRP k).time)(.int .i64(W.zRP k).rs)(.int .i64(W.zRP k).rb)(.slice ad(W.zRP k).dn cd) 99);have lA:=zA hb fA;have q0:=aA.c0;have q1:=aA.c1;have q2:=aA.c2;have q3:=aA.c3;have q4:=aA.c4;have q5:=aA.c5;have q6:=aA.c6;have q7:=aA.c7;have iA:=zB(zNb(rA.out k mA));obtain⟨⟨⟨y0,-⟩,⟨y1,-⟩,⟨y2,-⟩,⟨y3,-⟩⟩,⟨y4,-⟩,⟨y5,-⟩,⟨y6,-⟩,⟨y7,-⟩⟩:=sA.out;have dA:=zB(cA.out.zRJ fA);have bB:=fA.size;clear aA fA;go_wp2_with(first
    |(at_mapUpdate;refine wpList_mapUpdate_own _ rfl _ _ _ 218 rfl 2 99 zQx zPZ zCH(w.heap.size+1) k _ rfl dA.out(by unfold maxLen;omega) _ _ _ rfl rfl iA.out _ [](zBy _) ?_;intro w1 eA bA)
    |go_in)
   go_roundw
   case rel=>
    refine⟨k+1,by omega,by go_num,?_,lA.grown bA lA.size(fun j hj=>by cases hj;omega),by have:=bA.size;omega⟩;unfold zCk putD yg;rw [oA.out];exact eA
   case measure=>simp [intOf];omega
  ·obtain rfl:k=W.pn:=(by omega);go_wp2;go_ret;exact⟨vd,rfl,cA.out,tA.out,hb⟩
def zCh(n:Nat)(f:Nat->zm):Prop:=∀i,i<n->∀k,k<i->¬((f k).set=(f i).set/\(f k).name=(f i).name)
theorem zCh.iff{n:Nat}{f:Nat->zm}{key:Nat->Lit}(hk:∀i,i<n->keyOf Tryz.prog 266(.agg #[.string(f i).set,.string(f i).name])=some(key i)):zFd n key↔zCh n f:=by
 constructor
 ·intro h i hi k aA e;refine h i hi k aA ?_;have h1:=hk i hi;have h2:=hk k(by omega);rw [e.1,e.2,h1] at h2;exact(Option.some.inj h2).symm
 ·intro h i hi k aA e;have h1:=hk i hi;have h2:=hk k(by omega);rw [e] at h2;have:=zQg.inj h2 h1;simp only [Value.agg.injEq,Array.mk.injEq,List.cons.injEq,Value.string.injEq,and_true] at this;exact h i hi k aA this
theorem zHT(v:Value)(n lo hi:Nat)(f:Nat->zm)(w:World)(h:qz w lo hi v n f)(hn:n<=20) :
  Calls Tryz.prog 223 #[v] w fun e w'=>zG(zCh n f) e/\Below w.heap.size w w':=by
 have Hp:=zB h;obtain⟨m1,a,c,rfl,mc,-⟩:=id h;unfold maxLen at m1;have eA:∀i,∃l,WideAt.IsKeyLit l/\(i<n->keyOf Tryz.prog 266(.agg #[.string(f i).set,.string(f i).name])=some l):=fun i=>by
  by_cases hi':i<n
  ·obtain⟨b,off,vd,_,hs⟩:=h.cells hi';obtain⟨l,hl⟩:=zP6 hs.zRZ.2 hs.zRZ.1;exact⟨l,zQg.key hl,fun _=>hl⟩
  ·exact⟨.string [],trivial,fun h=>absurd h hi'⟩
 obtain⟨key,hk1,hk2⟩:∃key:Nat->Lit,zDj key/\∀i,i<n->keyOf Tryz.prog 266(.agg #[.string(f i).set,.string(f i).name])=some(key i):=⟨fun i=>(eA i).choose,fun i=>(eA i).choose_spec.1,fun i=>(eA i).choose_spec.2⟩;have oA:=zB hk1;have jA:=zB hk2;clear h eA hk1 hk2;have HM:=zB(World.ownsMap_made w Tryz.prog 266 zCH);have pA:=@run_makeMap Tryz.prog;go_enter Tryz.func223,Tryz.ntmps223;go_wp2
 go_loopw [9](fun i wr=>∃k:Nat,k<=n/\i = .int .i64 k/\wr.ownsMap Tryz.prog 266 zCH w.heap.size k(putD key(fun i=>.int .i64(f i).id) k)/\Below w.heap.size w wr/\w.heap.size+1<=wr.heap.size)(fun i _=>n - (intOf i).toNat)
 case atStart=>exact⟨0,Nat.zero_le _,rfl,HM.out,zC _ _,by rw [World.size_alloc];omega⟩
 case round=>
  clear HM;obtain⟨k,hk,rfl,hown,hb,hz⟩:=hrel;have bA:=zB hown;clear hown;by_cases kA:k<n
  ·have nA:(k:Int)<(n:Int):=(by omega);obtain⟨b,off,vd,rfl,hs2⟩:=(Hp.out.zRJ hb).cells kA;obtain⟨-,ad,cd,rfl,-,-⟩:=id hs2.zRX;have fA:=zC wr(.cells #[.int .i64(f k).id,.string(f k).name,.string(f k).set,.int .i64(f k).zRT,.int .i64(f k).time,.int .i64(f k).rs,.int .i64(f k).rb,.slice ad(f k).dn cd] 99);have lA:=zB(zCK.zRL wr(.int .i64(f k).id)(.string(f k).name)(.string(f k).set)(.int .i64(f k).zRT)(.int .i64(f k).time)(.int .i64(f k).rs)(.int .i64(f k).rb)(.slice ad(f k).dn cd) 99);have iA:=zA hb fA;have q0:=hs2.c0;have q1:=hs2.c1;have q2:=hs2.c2;have q3:=hs2.c3;have q4:=hs2.c4;have q5:=hs2.c5;have q6:=hs2.c6;have q7:=hs2.c7;have gA:=zB(jA.out k kA);obtain⟨⟨⟨y0,-⟩,⟨y1,-⟩,⟨y2,-⟩,⟨y3,-⟩⟩,⟨y4,-⟩,⟨y5,-⟩,⟨y6,-⟩,⟨y7,-⟩⟩:=lA.out;have cA:=zB(bA.out.kept(yu fA none)(by simp));have rA:=fA.size;clear hs2 fA;go_wp2_with(first
    |(at_mapUpdate;refine wpList_mapUpdate_own _ rfl _ _ _ 265 rfl 266 2 zQg zPq zCH w.heap.size k _ rfl cA.out(by unfold maxLen;omega) _ _ _ rfl rfl gA.out _ [](zBy _) ?_;intro w1 dA aA)
    |go_in)
   go_roundw
   case rel=>exact⟨k+1,by omega,by go_num,dA,iA.grown aA iA.size(fun j hj=>by cases hj;omega),by have:=aA.size;omega⟩
   case measure=>simp [intOf];omega
  ·obtain rfl:k=n:=(by omega);have mA:=zB(zGi oA.out(fun i=>.int .i64(f i).id) k);have HN:=zB(zCh.iff(f:=f) jA.out);go_wp2_with(first
    |(at_len;refine wpList_len_own _ rfl _ 265 rfl 266 2 zPq zCH w.heap.size k _ rfl bA.out ?_)
    |go_in)
   go_ret;refine⟨⟨_,rfl,?_⟩,hb⟩;have h1:=mA.out.2;have h2:=HN.out;simp only [beq_iff_eq,Int.natCast_inj];exact h1.trans h2
def zEU(f:Nat->zm):Nat->zm
 |0=>yP
 |k+1=>f k
def zIS(W:zH)(i:Nat):Prop:=zAP W(W.zRP i).set/\yM(W.zRP i).name/\(W.zRP i).zRT<(W.zRP i).id/\Mid(zEU W.zRP i).id(W.zRP i).id W.next/\Mid(zEU W.zRP i).time(W.zRP i).time W.time
def zPf(W:zH):Prop:=W.pn<=20/\(∀i,i<W.pn->zIS W i)/\zCh W.pn W.zRP
theorem zFq(w:World):(zeroValue 67).run Tryz.prog w = .ok(.agg #[.string ⟨#[]⟩,.int .i64 0,.int .i64 0,.int .i64 0,.int .i64 0,.slice none 0 0]) w:=by kernel_rfl
theorem zJo{W:zH}{vd:Nat->Value}(hd:∀i,i<W.sn->∃a n c,vd i = .slice a n c)(x:ByteArray):∃(s0:ByteArray)(i1 i2 i3 i4:Int)(a:Option Addr)(n c:Nat),(putD(fun i=>zCq(W.zRS i).name)(fun i=>zDH(vd i)(W.zRS i)) W.sn).atKey(zCq x)(.held(.agg #[.string ⟨#[]⟩,.int .i64 0,.int .i64 0,.int .i64 0,.int .i64 0,.slice none 0 0])) = .held(.agg #[.string s0,.int .i64 i1,.int .i64 i2,.int .i64 i3,.int .i64 i4,.slice a n c]):=by
 have hk:zDj(fun i=>zCq(W.zRS i).name):=fun i=>zLp _
 have:∀k,k<=W.sn->∃(s0:ByteArray)(i1 i2 i3 i4:Int)(a:Option Addr)(n c:Nat),(putD(fun i=>zCq(W.zRS i).name)(fun i=>zDH(vd i)(W.zRS i)) k).atKey(zCq x)(.held(.agg #[.string ⟨#[]⟩,.int .i64 0,.int .i64 0,.int .i64 0,.int .i64 0,.slice none 0 0])) = .held(.agg #[.string s0,.int .i64 i1,.int .i64 i2,.int .i64 i3,.int .i64 i4,.slice a n c]):=by
  intro k
  induction k with
  |zero=>exact fun _=>⟨⟨#[]⟩,0,0,0,0,none,0,0,zGe hk _(fun i hi=>absurd hi(Nat.not_lt_zero _)) _⟩
  |succ k ih=>
   intro aA;by_cases e:zCq(W.zRS k).name=zCq x
   ·obtain⟨a,n,c,hv⟩:=hd k(by omega);refine⟨(W.zRS k).name,(W.zRS k).origin,(W.zRS k).zRT,(W.zRS k).rs,(W.zRS k).rb,a,n,c,?_⟩;rw [<-e];refine(atKey_put_same(zCN hk _ k).isMap(hk k) _ _).trans ?_;show DataW.held(zDH(vd k)(W.zRS k))=_;rw [hv];rfl
   ·obtain⟨s0,i1,i2,i3,i4,a,n,c,h⟩:=ih(by omega);exact⟨s0,i1,i2,i3,i4,a,n,c,(atKey_put_other(Ne.symm e) _ _).trans h⟩
 exact this W.sn(Nat.le_refl _)
theorem zK6{W:zH}{vd:Nat->Value}(x:ByteArray):Maps.has(putD(fun i=>zCq(W.zRS i).name)(fun i=>zDH(vd i)(W.zRS i)) W.sn)(zCq x)=true↔zAP W x:=by
 rw [zD4(fun i=>zLp _)];constructor
 ·rintro⟨i,hi,e⟩;exact⟨i,hi,zO7 e⟩
 ·rintro⟨i,hi,e⟩;exact⟨i,hi,by rw [e]⟩
abbrev put8(w:World)(b:Nat)(u0 u1 u2 u3 u4 u5 u6 u7:Value):World:=(((((((w.setCell ⟨b,0,none⟩ u0).setCell ⟨b,1,none⟩ u1).setCell ⟨b,2,none⟩ u2).setCell ⟨b,3,none⟩ u3).setCell ⟨b,4,none⟩ u4).setCell ⟨b,5,none⟩ u5).setCell ⟨b,6,none⟩ u6).setCell ⟨b,7,none⟩ u7
theorem zCK.put{w:World}{b:Nat}{v0 v1 v2 v3 v4 v5 v6 v7:Value}(h:zCK w b v0 v1 v2 v3 v4 v5 v6 v7)(u0 u1 u2 u3 u4 u5 u6 u7:Value):zCK(put8 w b u0 u1 u2 u3 u4 u5 u6 u7) b u0 u1 u2 u3 u4 u5 u6 u7:=by
 obtain⟨⟨h0,h1,h2,h3⟩,h4,h5,h6,h7⟩:=h;refine⟨⟨?_,?_,?_,?_⟩,?_,?_,?_,?_⟩
 ·exact(((((((h0.set _).zRK _(Or.inr(by omega))).zRK _(Or.inr(by omega))).zRK _(Or.inr(by omega))).zRK _(Or.inr(by omega))).zRK _(Or.inr(by omega))).zRK _(Or.inr(by omega))).zRK _(Or.inr(by omega))
 ·exact(((((((h1.zRK _(Or.inr(by omega))).set _).zRK _(Or.inr(by omega))).zRK _(Or.inr(by omega))).zRK _(Or.inr(by omega))).zRK _(Or.inr(by omega))).zRK _(Or.inr(by omega))).zRK _(Or.inr(by omega))
 ·exact(((((((h2.zRK _(Or.inr(by omega))).zRK _(Or.inr(by omega))).set _).zRK _(Or.inr(by omega))).zRK _(Or.inr(by omega))).zRK _(Or.inr(by omega))).zRK _(Or.inr(by omega))).zRK _(Or.inr(by omega))
 ·exact(((((((h3.zRK _(Or.inr(by omega))).zRK _(Or.inr(by omega))).zRK _(Or.inr(by omega))).set _).zRK _(Or.inr(by omega))).zRK _(Or.inr(by omega))).zRK _(Or.inr(by omega))).zRK _(Or.inr(by omega))
 ·exact(((((((h4.zRK _(Or.inr(by omega))).zRK _(Or.inr(by omega))).zRK _(Or.inr(by omega))).zRK _(Or.inr(by omega))).set _).zRK _(Or.inr(by omega))).zRK _(Or.inr(by omega))).zRK _(Or.inr(by omega))
 ·exact(((((((h5.zRK _(Or.inr(by omega))).zRK _(Or.inr(by omega))).zRK _(Or.inr(by omega))).zRK _(Or.inr(by omega))).zRK _(Or.inr(by omega))).set _).zRK _(Or.inr(by omega))).zRK _(Or.inr(by omega))
 ·exact(((((((h6.zRK _(Or.inr(by omega))).zRK _(Or.inr(by omega))).zRK _(Or.inr(by omega))).zRK _(Or.inr(by omega))).zRK _(Or.inr(by omega))).zRK _(Or.inr(by omega))).set _).zRK _(Or.inr(by omega))
 ·exact(((((((h7.zRK _(Or.inr(by omega))).zRK _(Or.inr(by omega))).zRK _(Or.inr(by omega))).zRK _(Or.inr(by omega))).zRK _(Or.inr(by omega))).zRK _(Or.inr(by omega))).zRK _(Or.inr(by omega))).set _
theorem zF.put8(w:World)(b:Nat)(u0 u1 u2 u3 u4 u5 u6 u7:Value):zF(fun k=>k=b) w(put8 w b u0 u1 u2 u3 u4 u5 u6 u7):=
 (((((((zF.put w b 0 u0).trans(zF.put _ b 1 u1)).trans(zF.put _ b 2 u2)).trans(zF.put _ b 3 u3)).trans(zF.put _ b 4 u4)).trans(zF.put _ b 5 u5)).trans(zF.put _ b 6 u6)).trans(zF.put _ b 7 u7)
theorem zBt.put8{w:World}{W:zH}{M n b:Nat}{vd:Nat->Value}(h:zBt w W M n vd)(hb:M≠b)(u0 u1 u2 u3 u4 u5 u6 u7:Value):zBt(Go.Proofs.YtmgeglgboadfiaaGreatDoor.put8 w b u0 u1 u2 u3 u4 u5 u6 u7) W M n vd:=
 (((((((World.ownsMap.setCell h hb u0).setCell hb u1).setCell hb u2).setCell hb u3).setCell hb u4).setCell hb u5).setCell hb u6).setCell hb u7
theorem zMO{B:Nat}{w w':World}(h:Below B w w'){b:Nat}(hb:B<=b)(u0 u1 u2 u3 u4 u5 u6 u7:Value):Below B w(put8 w' b u0 u1 u2 u3 u4 u5 u6 u7):=
 (((((((h.setCell hb u0).setCell hb u1).setCell hb u2).setCell hb u3).setCell hb u4).setCell hb u5).setCell hb u6).setCell hb u7
theorem zH0(v0 v1 v2 v3:Value)(lo hi:Nat)(W:zH)(w:World)(h:zl w lo hi v0 v1 v2 v3 W)(hs:W.sn<=8) :
  Calls Tryz.prog 204 #[zz v0 v1 v2 v3 W] w fun e w'=>zG(zPf W) e/\Below w.heap.size w w':=by
 have Hp:=zB h;obtain⟨m1,a,c,rfl,mc,-⟩:=id h.zRP;unfold maxLen at m1;clear h;have ha:=zC w(.cells #[v0,v1,.int .i64 W.time,.int .i64 W.next,v2,.slice a W.pn c] 37);have HB:=zB(zi.zRL w v0 v1(.int .i64 W.time)(.int .i64 W.next) v2(.slice a W.pn c) 37);obtain⟨⟨x0,-⟩,⟨x2,-⟩,⟨x4,-⟩,⟨x6,-⟩,⟨x8,-⟩,⟨x10,-⟩⟩:=HB.out;by_cases hn:W.pn<=20;rotate_left
 ·have lB:(20:Int)<(W.pn:Int):=(by omega);go_enter Tryz.func204,Tryz.ntmps204;go_wp2;go_ret;exact⟨zG.no fun h=>hn h.1,ha⟩
 have lB:¬(20:Int)<(W.pn:Int):=by omega
 go_enter Tryz.func204,Tryz.ntmps204;go_wp2_with fail;clear x0 x2 x4 x6 x8 x10;generalize w.alloc(.cells #[v0,v1,.int .i64 W.time,.int .i64 W.next,v2,.slice a W.pn c] 37)=W0 at ha HB ⊢;refine(zEQ v0 v1 v2 _ lo hi W W0(Hp.out.zRJ ha) hs).mono ?_;rintro e w1 ⟨vd,rfl,hmap,hvd,hb1⟩;have gB:∀i,i<W.sn->∃a n c,vd i = .slice a n c:=fun i hi'=>by
  obtain⟨_,aa,cc,hv,_⟩:=hvd i hi';exact⟨aa,_,cc,hv⟩
 have jA:=zB(zJo gB);have gA:=zB(zK6(W:=W)(vd:=vd));have kA:=zC w1(.cells #[.int .i64 0,.string ⟨#[]⟩,.string ⟨#[]⟩,.int .i64 0,.int .i64 0,.int .i64 0,.int .i64 0,.slice none 0 0] 99);have mA:=zB((HB.out.zRJ hb1).zRJ kA);have aB:=zB(zCK.zRL w1(.int .i64 0)(.string ⟨#[]⟩)(.string ⟨#[]⟩)(.int .i64 0)(.int .i64 0)(.int .i64 0)(.int .i64 0)(.slice none 0 0) 99);have rA:=zB(hmap.zRJ kA);have fB:=zB(zA(zA ha hb1) kA);have cB:W0.heap.size+1<w1.heap.size:=hmap.lt;have dB:=zB(show w.heap.size<W0.heap.size+1 by have:=HB.out.1.lt;omega);clear hmap hvd gB hb1 kA ha HB;obtain⟨⟨x0,-⟩,⟨x2,-⟩,⟨x4,-⟩,⟨x6,-⟩,⟨x8,-⟩,⟨x10,-⟩⟩:=mA.out;go_wp2;clear x0 x2 x4 x6 x8 x10;obtain⟨L,hL⟩:∃L,L=w1.heap.size:=⟨_,rfl⟩;rw [<-hL] at aB cB ⊢;obtain⟨M,hM⟩:∃M,M=W0.heap.size+1:=⟨_,rfl⟩;rw [<-hM] at rA cB dB ⊢;have nB:w.heap.size<L:=by have:=dB.out;omega
 go_loopw [18](fun i wr=>∃(k:Nat)(al:Option Addr)(nl cl:Nat),k<=W.pn/\i = .int .i64 k/\(∀j,j<k->zIS W j)/\zCK wr L(.int .i64(zEU W.zRP k).id)(.string(zEU W.zRP k).name)(.string(zEU W.zRP k).set)(.int .i64(zEU W.zRP k).zRT)(.int .i64(zEU W.zRP k).time)(.int .i64(zEU W.zRP k).rs)(.int .i64(zEU W.zRP k).rb)(.slice al nl cl)/\zi wr w.heap.size v0 v1(.int .i64 W.time)(.int .i64 W.next) v2(.slice a W.pn c)/\zBt wr W M W.sn vd/\Below w.heap.size w wr)(fun i _=>W.pn - (intOf i).toNat)
 case atStart=>exact⟨0,none,0,0,Nat.zero_le _,rfl,fun j hj=>absurd hj(Nat.not_lt_zero _),aB.out,mA.out,rA.out,fB.out⟩
 case round=>
  clear aB mA rA fB hL hM;obtain⟨k,al,nl,cl,hk,rfl,hall,hV,hX,hM,hb⟩:=hrel;have iA:=zB hall;have HV:=zB hV;have HX:=zB hX;have HM:=zB hM;clear hall hV hX hM;obtain⟨⟨x0,-⟩,⟨x2,-⟩,⟨x4,-⟩,⟨x6,-⟩,⟨x8,-⟩,⟨x10,-⟩⟩:=HX.out;by_cases bA:k<W.pn
  ·have mB:(k:Int)<(W.pn:Int):=(by omega);obtain⟨b,off,vd2,rfl,hs2⟩:=(Hp.out.zRP.zRJ hb).cells bA;obtain⟨-,ad,cd,rfl,-,-⟩:=id hs2.zRX;obtain⟨s0,i1,i2,i3,i4,sa,sn,sc,hat⟩:=jA.out(W.zRP k).set;have bB:=zB hat;have dA:=zB(zKI hs2.zRZ.2);have jB:=hs2.zRZ.1;clear hat;have kB:wr.heap.size≠L:=(by have:=HV.out.1.1.lt;omega);have eA:=zC wr(.cells #[.int .i64(W.zRP k).id,.string(W.zRP k).name,.string(W.zRP k).set,.int .i64(W.zRP k).zRT,.int .i64(W.zRP k).time,.int .i64(W.zRP k).rs,.int .i64(W.zRP k).rb,.slice ad(W.zRP k).dn cd] 99);have fA:=zC(wr.alloc(.cells #[.int .i64(W.zRP k).id,.string(W.zRP k).name,.string(W.zRP k).set,.int .i64(W.zRP k).zRT,.int .i64(W.zRP k).time,.int .i64(W.zRP k).rs,.int .i64(W.zRP k).rb,.slice ad(W.zRP k).dn cd] 99))(.cells #[.string s0,.int .i64 i1,.int .i64 i2,.int .i64 i3,.int .i64 i4,.slice sa sn sc] 67);have nA:=zB(zCK.zRL wr(.int .i64(W.zRP k).id)(.string(W.zRP k).name)(.string(W.zRP k).set)(.int .i64(W.zRP k).zRT)(.int .i64(W.zRP k).time)(.int .i64(W.zRP k).rs)(.int .i64(W.zRP k).rb)(.slice ad(W.zRP k).dn cd) 99);have tA:=zB(HM.out.zRJ eA);have lA:=zB(nA.out.zRJ fA);have pA:=zB((HV.out.zRJ eA).zRJ fA);have sA:=zB((HX.out.zRJ eA).zRJ fA);have eB:=zB((HM.out.zRJ eA).zRJ fA);have cA:=zA(zA hb eA) fA;have oA:((wr.alloc(.cells #[.int .i64(W.zRP k).id,.string(W.zRP k).name,.string(W.zRP k).set,.int .i64(W.zRP k).zRT,.int .i64(W.zRP k).time,.int .i64(W.zRP k).rs,.int .i64(W.zRP k).rb,.slice ad(W.zRP k).dn cd] 99)).alloc(.cells #[.string s0,.int .i64 i1,.int .i64 i2,.int .i64 i3,.int .i64 i4,.slice sa sn sc] 67)).heap.size=wr.heap.size+2:=(by rw [World.size_alloc,World.size_alloc]);have q0:=hs2.c0;have q1:=hs2.c1;have q2:=hs2.c2;have q3:=hs2.c3;have q4:=hs2.c4;have q5:=hs2.c5;have q6:=hs2.c6;have q7:=hs2.c7;obtain⟨⟨⟨y0,-⟩,⟨y1,-⟩,⟨y2,-⟩,⟨y3,-⟩⟩,⟨y4,-⟩,⟨y5,-⟩,⟨y6,-⟩,⟨y7,-⟩⟩:=nA.out;obtain⟨⟨⟨z0,-⟩,⟨z1,-⟩,⟨z2,-⟩,⟨z3,-⟩⟩,⟨z4,-⟩,⟨z5,-⟩,⟨z6,-⟩,⟨z7,-⟩⟩:=lA.out;clear hs2;by_cases aA:zAP W(W.zRP k).set;rotate_left
   ·have Hc:=zB(show Maps.has(putD(fun i=>zCq(W.zRS i).name)(fun i=>zDH(vd i)(W.zRS i)) W.sn)(zCq(W.zRP k).set)=false by rw [Bool.eq_false_iff];exact fun h=>aA((gA.out _).1 h));have Hn:=zB(show ¬zIS W k from fun h=>aA h.1);clear aA;go_wp2_with(first
     |(at_lookup;refine zAD _ rfl _ _ 177 rfl 9 67 zOv zLa(zFq _) M W.sn _ rfl tA.out _ _ rfl dA.out _ bB.out false Hc.out ?_)
     |go_in)
    go_ret;exact⟨zG.no fun h=>Hn.out(h.2.1 k bA),cA⟩
   have vA:=zB aA;have Hc:=zB((gA.out _).2 aA);clear aA;go_wp2_with(first
    |(at_lookup;refine zAD _ rfl _ _ 177 rfl 9 67 zOv zLa(zFq _) M W.sn _ rfl tA.out _ _ rfl dA.out _ bB.out true Hc.out ?_)
    |fail)
   clear x0 x2 x4 x6 x8 x10 y0 y1 y2 y3 y4 y5 y6 y7 z0 z1 z2 z3 z4 z5 z6 z7 q0 q1 q2 q3 q4 q5 q6 q7 nA tA HV HX HM hb eA fA dA bB Hc;generalize(wr.alloc(.cells #[.int .i64(W.zRP k).id,.string(W.zRP k).name,.string(W.zRP k).set,.int .i64(W.zRP k).zRT,.int .i64(W.zRP k).time,.int .i64(W.zRP k).rs,.int .i64(W.zRP k).rb,.slice ad(W.zRP k).dn cd] 99)).alloc(.cells #[.string s0,.int .i64 i1,.int .i64 i2,.int .i64 i3,.int .i64 i4,.slice sa sn sc] 67)=W2 at lA pA sA eB cA oA ⊢;generalize wr.heap.size=V8 at lA kB ⊢;obtain⟨⟨x0,-⟩,⟨x2,-⟩,⟨x4,-⟩,⟨x6,-⟩,⟨x8,-⟩,⟨x10,-⟩⟩:=sA.out;obtain⟨⟨⟨z0,-⟩,⟨z1,-⟩,⟨z2,-⟩,⟨z3,-⟩⟩,⟨z4,-⟩,⟨z5,-⟩,⟨z6,-⟩,⟨z7,-⟩⟩:=lA.out;obtain⟨⟨⟨l0,m0⟩,⟨l1,n1⟩,⟨l2,n2⟩,⟨l3,n3⟩⟩,⟨l4,n4⟩,⟨l5,n5⟩,⟨l6,n6⟩,⟨l7,n7⟩⟩:=pA.out;refine(zDW(W.zRP k).name _ jB).mono ?_;rintro e wn ⟨⟨tn,rfl,htn⟩,rfl⟩;by_cases hA:yM(W.zRP k).name;rotate_left
   ·have Hn:=zB(show ¬zIS W k from fun h=>hA h.2.1);obtain rfl:tn=false:=zQ htn hA;clear htn hA;go_wp2;go_ret;exact⟨zG.no fun h=>Hn.out(h.2.1 k bA),cA⟩
   have HA:=zB hA;obtain rfl:tn=true:=htn.2 hA;clear htn hA;by_cases hg:(W.zRP k).id<=(W.zRP k).zRT
   ·have Hn:=zB(show ¬zIS W k from fun h=>by have:=h.2.2.1;omega);go_wp2;go_ret;exact⟨zG.no fun h=>Hn.out(h.2.1 k bA),cA⟩
   have Hg:=zB(show(W.zRP k).zRT<(W.zRP k).id by omega);go_wp2_with fail;clear hg;refine(zG0 _ _ _ _).mono ?_;rintro e wn ⟨⟨tn,rfl,htn⟩,rfl⟩;by_cases hB:Mid(zEU W.zRP k).id(W.zRP k).id W.next;rotate_left
   ·have Hn:=zB(show ¬zIS W k from fun h=>hB h.2.2.2.1);obtain rfl:tn=false:=zQ htn hB;clear htn hB;go_wp2;go_ret;exact⟨zG.no fun h=>Hn.out(h.2.1 k bA),cA⟩
   have HB:=zB hB;obtain rfl:tn=true:=htn.2 hB;clear htn hB;go_wp2_with fail;refine(zG0 _ _ _ _).mono ?_;rintro e wn ⟨⟨tn,rfl,htn⟩,rfl⟩;by_cases hB:Mid(zEU W.zRP k).time(W.zRP k).time W.time;rotate_left
   ·have Hn:=zB(show ¬zIS W k from fun h=>hB h.2.2.2.2);obtain rfl:tn=false:=zQ htn hB;clear htn hB;go_wp2;go_ret;exact⟨zG.no fun h=>Hn.out(h.2.1 k bA),cA⟩
   have iB:=zB hB;obtain rfl:tn=true:=htn.2 hB;clear htn hB;go_wp2;go_roundw
   case rel=>exact⟨k+1,_,_,_,by omega,by go_num,zo bA iA.out ⟨vA.out,HA.out,Hg.out,HB.out,iB.out⟩,pA.out.put _ _ _ _ _ _ _ _,sA.out.zRR(zF.put8 _ L _ _ _ _ _ _ _ _)(by omega),eB.out.put8(by omega) _ _ _ _ _ _ _ _,zMO cA(by omega) _ _ _ _ _ _ _ _⟩
   case measure=>simp [intOf];omega
  ·obtain rfl:k=W.pn:=(by omega);go_wp2_with fail;clear x0 x2 x4 x6 x8 x10;refine(zHT _ W.pn lo hi W.zRP _(Hp.out.zRP.zRJ hb) hn).mono ?_;rintro e w6 ⟨⟨t6,rfl,ht6⟩,hb6⟩;have Ht:=zB ht6;clear ht6;go_wp2;go_ret;exact⟨⟨t6,rfl,Ht.out.trans ⟨fun hA=>⟨hn,iA.out,hA⟩,fun hA=>hA.2.2⟩⟩,zA hb hb6⟩
def zCF(W:zH):Prop:=∀i,i<W.pn->∀j,j<i->(W.zRP j).id≠(W.zRP i).id
def zBU(w:World)(lo hi:Nat)(W:zH)(A:Nat):Prop:=∃M vd,zX w A 0(.map(some M))/\zCk w W M W.pn vd/\zEa w lo hi W.pn W.zRP vd
abbrev zGG(A:Nat):Value:=.func(.func 190) #[] #[.pointer(some ⟨A,0,none⟩)]
theorem zBU.zRJ{w w':World}{lo hi:Nat}{W:zH}{A:Nat}(h:zBU w lo hi W A)(t:Below w.heap.size w w'):zBU w' lo hi W A:=by
 obtain⟨M,vd,h1,h2,h3⟩:=h;exact⟨M,vd,h1.zRJ t,h2.zRJ t,fun i hi'=>(h3 i hi').zRJ t⟩
theorem zOP(w:World):(zeroValue 99).run Tryz.prog w = .ok(.agg #[.int .i64 0,.string ⟨#[]⟩,.string ⟨#[]⟩,.int .i64 0,.int .i64 0,.int .i64 0,.int .i64 0,.slice none 0 0]) w:=by kernel_rfl
theorem zM8{W:zH}{w:World}{lo hi:Nat}{vd:Nat->Value}(hD:zCF W)(hd:zEa w lo hi W.pn W.zRP vd)(x:Int):∃a c,(putD(fun i=>zKa(W.zRP i).id)(fun i=>yg(vd i)(W.zRP i)) W.pn).atKey(zKa x)(.held(.agg #[.int .i64 0,.string ⟨#[]⟩,.string ⟨#[]⟩,.int .i64 0,.int .i64 0,.int .i64 0,.int .i64 0,.slice none 0 0])) = .held(yg(.slice a(zN W x).dn c)(zN W x))/\zR w lo hi(.slice a(zN W x).dn c)(zN W x).dn(zN W x).ds(zN W x).db:=by
 have hk:zDj(fun i=>zKa(W.zRP i).id):=fun i=>zPL _
 by_cases hx:∃k,yA W x k
 ·obtain⟨k,hk'⟩:=hx;rw [yB hk'];have hp:=hd k hk'.1;obtain⟨_,a,c,hv,_⟩:=id hp;refine⟨a,c,?_,by rw [<-hv];exact hp⟩;have:=zKO hk(fun i=>yg(vd i)(W.zRP i))(.held(.agg #[.int .i64 0,.string ⟨#[]⟩,.string ⟨#[]⟩,.int .i64 0,.int .i64 0,.int .i64 0,.int .i64 0,.slice none 0 0])) W.pn k hk'.1(fun j h1 h2 e=>hD j h2 k h1(zLV e).symm);rw [hk'.2.1] at this;rw [this,hv]
 ·have e:zN W x=yP:=(by unfold zN;rw [dif_neg hx]);rw [e];refine⟨none,0,?_,⟨Nat.zero_le _,none,0,rfl,Nat.le_refl _,fun h=>absurd h(by simp [yP])⟩⟩;refine zGe hk _(fun i hi' e2=>?_) _;exact hx(zGC(Nat.le_refl _) ⟨i,hi',zLV e2⟩)
theorem zBi(lo hi:Nat)(W:zH)(A:Nat)(x:Int)(w:World)(h:zBU w lo hi W A)(hD:zCF W)(hx:(Lit.int .i64 x).wf=true)(hn:W.pn<=20) :
  Calls Tryz.prog 190 #[.int .i64 x,.pointer(some ⟨A,0,none⟩)] w fun e w'=>∃a c,e = .returned(yg(.slice a(zN W x).dn c)(zN W x))/\zR w lo hi(.slice a(zN W x).dn c)(zN W x).dn(zN W x).ds(zN W x).db/\Below w.heap.size w w':=by
 obtain⟨M,vd,hc,hm,hd⟩:=h;obtain⟨a,c,hat,hp⟩:=zM8 hD hd x;have dA:=zB hat;have eA:=zB hp;have bA:=zB(zNb hx);clear hat hp hd hx;unfold yg at dA ⊢;generalize zN W x=S at *;have cA:=zC w(.cells #[.int .i64 0,.string ⟨#[]⟩,.string ⟨#[]⟩,.int .i64 0,.int .i64 0,.int .i64 0,.int .i64 0,.slice none 0 0] 99);have HM:=zB(hm.zRJ cA);obtain⟨x0,-⟩:=hc.zRJ cA;have aA:=zC w(.cells #[.int .i64 S.id,.string S.name,.string S.set,.int .i64 S.zRT,.int .i64 S.time,.int .i64 S.rs,.int .i64 S.rb,.slice a S.dn c] 99);obtain⟨⟨⟨y0,-⟩,⟨y1,-⟩,⟨y2,-⟩,⟨y3,-⟩⟩,⟨y4,-⟩,⟨y5,-⟩,⟨y6,-⟩,⟨y7,-⟩⟩:=zCK.zRL w(.int .i64 S.id)(.string S.name)(.string S.set)(.int .i64 S.zRT)(.int .i64 S.time)(.int .i64 S.rs)(.int .i64 S.rb)(.slice a S.dn c) 99;clear hm hc cA;go_enter Tryz.func190,Tryz.ntmps190;go_wp2_with(first
  |(at_lookup;refine zF6 _ rfl _ _ 218 rfl 2 99 zQx zPZ(zOP _) M W.pn _ rfl HM.out _ _ rfl bA.out _ dA.out ?_)
  |go_in)
 refine bodyPost_ret(v:=.agg #[.int .i64 S.id,.string S.name,.string S.set,.int .i64 S.zRT,.int .i64 S.time,.int .i64 S.rs,.int .i64 S.rb,.slice a S.dn c])(by simp [results,Tryz.results190,go_sem,y0,y1,y2,y3,y4,y5,y6,y7]) rfl ⟨a,c,rfl,eA.out,aA⟩
theorem zG4(v0 v1 v2 v3:Value)(lo hi:Nat)(W:zH)(w:World)(h:zl w lo hi v0 v1 v2 v3 W)(hn:W.pn<=20)(eA:zNT W.pn W.zRP) :
  Calls Tryz.prog 152 #[zz v0 v1 v2 v3 W] w fun e w'=>∃A,e = .returned(zGG A)/\zBU w' lo hi W A/\Below w.heap.size w w':=by
 have Hp:=zB h;clear h;have fA:∀(fn:Fn)(aA cA:Array Value)(w:World),(Instr.makeFunc fn aA cA).run Tryz.prog w = .ok(.func fn aA cA) w:=fun _ _ _ _=>rfl
 have ha:=zC w(.cells #[v0,v1,.int .i64 W.time,.int .i64 W.next,v2,v3] 37);obtain⟨⟨x0,-⟩,⟨x2,-⟩,⟨x4,-⟩,⟨x6,-⟩,⟨x8,-⟩,⟨x10,-⟩⟩:=zi.zRL w v0 v1(.int .i64 W.time)(.int .i64 W.next) v2 v3 37;go_enter Tryz.func152,Tryz.ntmps152;go_wp2_with fail;clear x0 x2 x4 x6 x8 x10;generalize w.alloc(.cells #[v0,v1,.int .i64 W.time,.int .i64 W.next,v2,v3] 37)=W0 at ha ⊢;refine(zI7 v0 v1 v2 v3 lo hi W W0(Hp.out.zRJ ha) hn eA).mono ?_;rintro e w1 ⟨vd,rfl,hm,hd,hb1⟩;have bA:=zC w1(.cells #[.map(some(W0.heap.size+1))] 218);have hc:zX(w1.alloc(.cells #[.map(some(W0.heap.size+1))] 218)) w1.heap.size 0(.map(some(W0.heap.size+1))):=zI(heap_alloc_new _ _) rfl;have HA:=zB(show zBU(w1.alloc(.cells #[.map(some(W0.heap.size+1))] 218)) lo hi W w1.heap.size from⟨_,vd,hc,hm.zRJ bA,fun i hi'=>((hd i hi').zRJ hb1).zRJ bA⟩);have dA:=zA(zA ha hb1) bA;clear hm hd hb1 bA hc;go_wp2;go_ret;exact⟨_,rfl,HA.out,dA⟩
def zNI(vd:Value)(m:zEq):List Value:=[.int .i64 m.zRT,.int .i64 m.time,.int .i64 m.rs,.int .i64 m.rb,vd]
def mrow(W:zH)(vd:Nat->Value):Nat->List Value
 |0=>[]
 |k+1=>mrow W vd k ++ zNI(vd k)(zO W k)
theorem zFg(W:zH)(vd:Nat->Value):∀n,(mrow W vd n).length=n*5
 |0=>rfl
 |n+1=>by simp [mrow,zFg W vd n,zNI];omega
theorem zDJ{W:zH}{vd:Nat->Value}:∀{n i j:Nat},i<n->j<5->(mrow W vd n)[i*5+j]?=(zNI(vd i)(zO W i))[j]?
 |0,i,j,hi,_=>absurd hi(Nat.not_lt_zero _)
 |n+1,i,j,hi,hj=>by
  unfold mrow;by_cases e:i=n
  ·subst e;rw [List.getElem?_append_right(by rw [zFg];omega),zFg,show i*5+j - i*5=j by omega]
  ·rw [List.getElem?_append_left(by rw [zFg];omega),zDJ(by omega) hj]
def zII(w:World)(lo hi:Nat)(W:zH)(vd:Nat->Value):Prop:=∀i,i<zq W->zR w lo hi(vd i)(zO W i).dn(zO W i).ds(zO W i).db
def zFK(w:World)(base:Nat)(v:Value)(W:zH)(vd:Nat->Value)(n:Nat):Prop:=w.ownsRow base 224 5 v n(mrow W vd n)
theorem zFK.zRJ{w w1:World}{base:Nat}{v:Value}{W:zH}{vd:Nat->Value}{n:Nat}(h:zFK w base v W vd n)(hb:Below w.heap.size w w1):zFK w1 base v W vd n:=
 h.kept(yu hb none)(by cases v.ownBlock<;>simp)
theorem zFK.lt{w:World}{base:Nat}{v:Value}{W:zH}{vd:Nat->Value}{n:Nat}(h:zFK w base v W vd n){q:Nat}(hq:v.ownBlock=some q):base<=q/\q<w.heap.size:=by
 rcases h.2 with⟨rfl,_⟩ | ⟨g,cap,cur,rfl,hb,hg,_⟩
 ·simp [Value.ownBlock] at hq
 ·simp only [Value.ownBlock,Option.some.injEq] at hq;subst hq;exact⟨hb,(Array.getElem?_eq_some_iff.1 hg).1⟩
theorem zFK.next{w2:World}{base g aA:Nat}{W:zH}{vd:Nat->Value}{n:Nat}(h:w2.ownsRow base 224 5(.slice(some ⟨g,0,none⟩)(n+1) aA)(n+1)(mrow W vd n ++ zNI(vd n)(zO W n))):zFK w2 base(.slice(some ⟨g,0,none⟩)(n+1) aA) W vd(n+1):=h
structure zFR(w:World)(lo hi:Nat)(v:Value)(W:zH)(vd:Nat->Value):Prop where
 form:∃a c,v = .slice a(zq W) c/\zq W<=c
 cells:∀i,i<zq W->∃g c,v = .slice(some ⟨g,0,none⟩)(zq W) c/\w.cell? ⟨g,i*5,none⟩=some(.int .i64(zO W i).zRT)/\w.cell? ⟨g,i*5+1,none⟩=some(.int .i64(zO W i).time)/\w.cell? ⟨g,i*5+2,none⟩=some(.int .i64(zO W i).rs)/\w.cell? ⟨g,i*5+3,none⟩=some(.int .i64(zO W i).rb)/\w.cell? ⟨g,i*5+4,none⟩=some(vd i)
 zRX:zII w lo hi W vd
theorem zFR.zRJ{w w1:World}{lo hi:Nat}{v:Value}{W:zH}{vd:Nat->Value}(h:zFR w lo hi v W vd)(t:Below w.heap.size w w1):zFR w1 lo hi v W vd where
 form:=h.form
 cells:=fun i hi'=>by
  obtain⟨g,c,e,h0,h1,h2,h3,h4⟩:=h.cells i hi';exact⟨g,c,e,(t.cell(zD h0)).trans h0,(t.cell(zD h1)).trans h1,(t.cell(zD h2)).trans h2,(t.cell(zD h3)).trans h3,(t.cell(zD h4)).trans h4⟩
 zRX:=fun i hi'=>(h.zRX i hi').zRJ t
theorem zFK.at{w:World}{base lo hi:Nat}{v:Value}{W:zH}{vd:Nat->Value}(h:zFK w base v W vd(zq W))(hd:zII w lo hi W vd):zFR w lo hi v W vd where
 form:=zW h
 cells:=fun i hi'=>by
  obtain⟨g,cap,e,hcp,hb,hlt,hcell⟩:=qf h(by omega);refine⟨g,cap,e,?_,?_,?_,?_,?_⟩
  ·exact(hcell(i*5) _(by have:=zDJ(W:=W)(vd:=vd) hi'(show 0<5 by omega);rw [Nat.add_zero] at this;rw [this];rfl)).1
  ·exact(hcell(i*5+1) _(by rw [zDJ hi'(by omega)];rfl)).1
  ·exact(hcell(i*5+2) _(by rw [zDJ hi'(by omega)];rfl)).1
  ·exact(hcell(i*5+3) _(by rw [zDJ hi'(by omega)];rfl)).1
  ·exact(hcell(i*5+4) _(by rw [zDJ hi'(by omega)];rfl)).1
 zRX:=hd
theorem zQM:(Tryz.prog.info? 224).map(fun i=>(i.zero,i.size,i.bytes))=some(some(.agg #[.int .i64 0,.int .i64 0,.int .i64 0,.int .i64 0,.slice none 0 0]),5,56):=by kernel_rfl
theorem zC9(v0 v1 v2 v3:Value)(lo hi:Nat)(W:zH)(w:World)(h:zl w lo hi v0 v1 v2 v3 W)(hs:W.sn<=8)(hp:W.pn<=20) :
  Calls Tryz.prog 181 #[zz v0 v1 v2 v3 W] w fun e w'=>∃v vd,e = .returned v/\zFR w' lo hi v W vd/\Below w.heap.size w w':=by
 have Hp:=zB h;obtain⟨m1,a,c,rfl,mc,-⟩:=id h.zRP;obtain⟨m2,a',c',rfl,mc',-⟩:=id h.zRS;unfold maxLen at m1 m2;obtain⟨vs,hvs,hcs⟩:=h.zRP.vals;obtain⟨vt,hvt,hct⟩:=h.zRS.vals;have gB:∃vd:Nat->Value,(∀i,i<W.pn->vd i=vs i)/\(∀i,i<W.sn->vd(W.pn+i)=vt i)/\zII w lo hi W vd:=by
  refine⟨fun i=>if i<W.pn then vs i else vt(i - W.pn),fun i hi'=>if_pos hi',fun i hi'=>?_,fun i hi'=>?_⟩
  ·show(if W.pn+i<W.pn then vs(W.pn+i)else vt(W.pn+i - W.pn))=vt i;rw [if_neg(by omega),show W.pn+i - W.pn=i by omega]
  ·show zR w lo hi(if i<W.pn then vs i else vt(i - W.pn)) _ _ _;by_cases lA:i<W.pn
   ·rw [if_pos lA,qS lA];exact hvs i lA
   ·have e:=yH W(i - W.pn);rw [show W.pn+(i - W.pn)=i by omega] at e;rw [if_neg lA,e];unfold zq at hi';exact hvt _(by omega)
 obtain⟨vd,hd1,hd2,hd3⟩:=gB;have eB:=zB hcs;have iB:=zB hct;have bB:=zB hd1;have cB:=zB hd2;have fB:=zB hd3;clear h hvs hcs hvt hct hd1 hd2 hd3;obtain⟨i0,hi0,hzz⟩:=Option.map_eq_some_iff.1 zQM;simp only [Prod.mk.injEq] at hzz;have HI:=zB(And.intro hi0 hzz);clear hi0 hzz;have ha:=zC w(.cells #[v0,v1,.int .i64 W.time,.int .i64 W.next,.slice a' W.sn c',.slice a W.pn c] 37);have HB:=zB(zi.zRL w v0 v1(.int .i64 W.time)(.int .i64 W.next)(.slice a' W.sn c')(.slice a W.pn c) 37);obtain⟨⟨x0,-⟩,⟨x2,-⟩,⟨x4,-⟩,⟨x6,-⟩,⟨x8,-⟩,⟨x10,-⟩⟩:=HB.out;go_enter Tryz.func181,Tryz.ntmps181;go_wp2;clear x0 x2 x4 x6 x8 x10
 go_loopw [3,11](fun v i wr=>∃k:Nat,k<=W.pn/\i = .int .i64 k/\zFK wr(w.heap.size+1) v W vd k/\zi wr w.heap.size v0 v1(.int .i64 W.time)(.int .i64 W.next)(.slice a' W.sn c')(.slice a W.pn c)/\Below w.heap.size w wr)(fun _ i _=>W.pn - (intOf i).toNat)
 case atStart=>exact⟨0,Nat.zero_le _,rfl,World.ownsRow_nil _ _ _ _,HB.out,ha⟩
 case round=>
  clear HB ha;obtain⟨k,hk,rfl,hrow,hX,hb⟩:=hrel;have dA:=zB hrow;have HX:=zB hX;clear hrow hX;by_cases iA:k<W.pn
  ·have vA:(k:Int)<(W.pn:Int):=(by omega);obtain⟨b,off,rfl,hs0⟩:=eB.out k iA;have aA:=hs0.zRJ hb;rw [<-bB.out k iA] at aA;obtain⟨-,ad,cd,hvk,-,-⟩:=id aA.zRX;have nA:=zB hvk;rw [hvk] at aA;clear hvk hs0;have gA:=zC wr(.cells #[.int .i64(W.zRP k).id,.string(W.zRP k).name,.string(W.zRP k).set,.int .i64(W.zRP k).zRT,.int .i64(W.zRP k).time,.int .i64(W.zRP k).rs,.int .i64(W.zRP k).rb,.slice ad(W.zRP k).dn cd] 99);have rA:=zB(zCK.zRL wr(.int .i64(W.zRP k).id)(.string(W.zRP k).name)(.string(W.zRP k).set)(.int .i64(W.zRP k).zRT)(.int .i64(W.zRP k).time)(.int .i64(W.zRP k).rs)(.int .i64(W.zRP k).rb)(.slice ad(W.zRP k).dn cd) 99);have fA:=zC(wr.alloc(.cells #[.int .i64(W.zRP k).id,.string(W.zRP k).name,.string(W.zRP k).set,.int .i64(W.zRP k).zRT,.int .i64(W.zRP k).time,.int .i64(W.zRP k).rs,.int .i64(W.zRP k).rb,.slice ad(W.zRP k).dn cd] 99))(.cells #[.int .i64(W.zRP k).zRT,.int .i64(W.zRP k).time,.int .i64(W.zRP k).rs,.int .i64(W.zRP k).rb,.slice ad(W.zRP k).dn cd] 224);have HN:=zB(World.news_of_block(heap_alloc_last(wr.alloc(.cells #[.int .i64(W.zRP k).id,.string(W.zRP k).name,.string(W.zRP k).set,.int .i64(W.zRP k).zRT,.int .i64(W.zRP k).time,.int .i64(W.zRP k).rs,.int .i64(W.zRP k).rb,.slice ad(W.zRP k).dn cd] 99))(.cells #[.int .i64(W.zRP k).zRT,.int .i64(W.zRP k).time,.int .i64(W.zRP k).rs,.int .i64(W.zRP k).rb,.slice ad(W.zRP k).dn cd] 224)));have cA:=zB((dA.out.zRJ gA).zRJ fA);have tA:=zB((HX.out.zRJ gA).zRJ fA);have jA:=zA(zA hb gA) fA;have jB:=HX.out.1.lt;have oA:(wr.alloc(.cells #[.int .i64(W.zRP k).id,.string(W.zRP k).name,.string(W.zRP k).set,.int .i64(W.zRP k).zRT,.int .i64(W.zRP k).time,.int .i64(W.zRP k).rs,.int .i64(W.zRP k).rb,.slice ad(W.zRP k).dn cd] 99)).heap.size=wr.heap.size+1:=World.size_alloc _ _;have dB:=fA.size;rw [oA] at HN;have q0:=aA.c0;have q1:=aA.c1;have q2:=aA.c2;have q3:=aA.c3;have q4:=aA.c4;have q5:=aA.c5;have q6:=aA.c6;have q7:=aA.c7;obtain⟨⟨⟨y0,-⟩,⟨y1,-⟩,⟨y2,-⟩,⟨y3,-⟩⟩,⟨y4,-⟩,⟨y5,-⟩,⟨y6,-⟩,⟨y7,-⟩⟩:=rA.out;clear aA gA fA dA HX;go_wp2_with(first
    |(at_builtin;refine wpList_append_lies _ rfl _ _ 220 rfl(w.heap.size+1) 224 i0(.agg #[.int .i64 0,.int .i64 0,.int .i64 0,.int .i64 0,.slice none 0 0]) 5 56(by kernel_rfl) HI.out.1 HI.out.2.1 HI.out.2.2.1 HI.out.2.2.2 rfl(by decide) _ _ _ rfl cA.out ⟨wr.heap.size+1,0,none⟩ 1 1 [.int .i64(W.zRP k).zRT,.int .i64(W.zRP k).time,.int .i64(W.zRP k).rs,.int .i64(W.zRP k).rb,.slice ad(W.zRP k).dn cd] rfl rfl HN.out(by simp [Value.oneCell'])(by decide)(by unfold maxLen;omega)(by omega)(by omega) _ rfl ?_;intro g' sA w8 eA bA mA pA)
    |go_in)
   go_roundw
   case rel=>
    have kA:∀q,Value.ownBlock _=some q->w.heap.size+1<=q:=fun q hq=>(cA.out.lt hq).1
    refine⟨k+1,by omega,by go_num,?_,tA.out.grown bA(fun q hq=>by have:=kA q hq;omega),jA.grown bA jA.size(fun q hq=>by have:=kA q hq;omega)⟩;refine zFK.next ?_;rw [qS iA,nA.out];exact eA
   case measure=>simp [intOf];omega
  ·obtain rfl:k=W.pn:=(by omega);obtain⟨⟨x0,-⟩,⟨x2,-⟩,⟨x4,-⟩,⟨x6,-⟩,⟨x8,-⟩,⟨x10,-⟩⟩:=HX.out;go_wp2;clear x0 x2 x4 x6 x8 x10
   go_loopw [3,31](fun v i wr=>∃k:Nat,k<=W.sn/\i = .int .i64 k/\zFK wr(w.heap.size+1) v W vd(W.pn+k)/\zi wr w.heap.size v0 v1(.int .i64 W.time)(.int .i64 W.next)(.slice a' W.sn c')(.slice a W.pn c)/\Below w.heap.size w wr)(fun _ i _=>W.sn - (intOf i).toNat)
   case atStart=>exact⟨0,Nat.zero_le _,rfl,dA.out,HX.out,hb⟩
   case round=>
    clear HX hb dA hk iA;obtain⟨k,hk,rfl,hrow,hX,hb⟩:=hrel;have dA:=zB hrow;have HX:=zB hX;clear hrow hX;by_cases iA:k<W.sn
    ·have vA:(k:Int)<(W.sn:Int):=(by omega);obtain⟨b,off,rfl,hs0⟩:=iB.out k iA;have aA:=hs0.zRJ hb;rw [<-cB.out k iA] at aA;obtain⟨-,ad,cd,hvk,-,-⟩:=id aA.zRX;have nA:=zB hvk;rw [hvk] at aA;clear hvk hs0;have gA:=zC wr(.cells #[.string(W.zRS k).name,.int .i64(W.zRS k).origin,.int .i64(W.zRS k).zRT,.int .i64(W.zRS k).rs,.int .i64(W.zRS k).rb,.slice ad(W.zRS k).dn cd] 67);have rA:=zB(zi.zRL wr(.string(W.zRS k).name)(.int .i64(W.zRS k).origin)(.int .i64(W.zRS k).zRT)(.int .i64(W.zRS k).rs)(.int .i64(W.zRS k).rb)(.slice ad(W.zRS k).dn cd) 67);have aB:=zB(HX.out.zRJ gA);have fA:=zC(wr.alloc(.cells #[.string(W.zRS k).name,.int .i64(W.zRS k).origin,.int .i64(W.zRS k).zRT,.int .i64(W.zRS k).rs,.int .i64(W.zRS k).rb,.slice ad(W.zRS k).dn cd] 67))(.cells #[.int .i64(W.zRS k).zRT,.int .i64 W.time,.int .i64(W.zRS k).rs,.int .i64(W.zRS k).rb,.slice ad(W.zRS k).dn cd] 224);have HN:=zB(World.news_of_block(heap_alloc_last(wr.alloc(.cells #[.string(W.zRS k).name,.int .i64(W.zRS k).origin,.int .i64(W.zRS k).zRT,.int .i64(W.zRS k).rs,.int .i64(W.zRS k).rb,.slice ad(W.zRS k).dn cd] 67))(.cells #[.int .i64(W.zRS k).zRT,.int .i64 W.time,.int .i64(W.zRS k).rs,.int .i64(W.zRS k).rb,.slice ad(W.zRS k).dn cd] 224)));have cA:=zB((dA.out.zRJ gA).zRJ fA);have tA:=zB((HX.out.zRJ gA).zRJ fA);have jA:=zA(zA hb gA) fA;have jB:=HX.out.1.lt;have oA:(wr.alloc(.cells #[.string(W.zRS k).name,.int .i64(W.zRS k).origin,.int .i64(W.zRS k).zRT,.int .i64(W.zRS k).rs,.int .i64(W.zRS k).rb,.slice ad(W.zRS k).dn cd] 67)).heap.size=wr.heap.size+1:=World.size_alloc _ _;have dB:=fA.size;rw [oA] at HN;have q0:=aA.c0;have q1:=aA.c1;have q2:=aA.c2;have q3:=aA.c3;have q4:=aA.c4;have q5:=aA.c5;obtain⟨⟨y0,-⟩,⟨y1,-⟩,⟨y2,-⟩,⟨y3,-⟩,⟨y4,-⟩,⟨y5,-⟩⟩:=rA.out;obtain⟨⟨z0,-⟩,⟨z2,-⟩,⟨z4,-⟩,⟨z6,-⟩,⟨z8,-⟩,⟨z10,-⟩⟩:=aB.out;clear aA gA fA dA HX;go_wp2_with(first
      |(at_builtin;refine wpList_append_lies _ rfl _ _ 220 rfl(w.heap.size+1) 224 i0(.agg #[.int .i64 0,.int .i64 0,.int .i64 0,.int .i64 0,.slice none 0 0]) 5 56(by kernel_rfl) HI.out.1 HI.out.2.1 HI.out.2.2.1 HI.out.2.2.2 rfl(by decide) _ _ _ rfl cA.out ⟨wr.heap.size+1,0,none⟩ 1 1 [.int .i64(W.zRS k).zRT,.int .i64 W.time,.int .i64(W.zRS k).rs,.int .i64(W.zRS k).rb,.slice ad(W.zRS k).dn cd] rfl rfl HN.out(by simp [Value.oneCell'])(by decide)(by unfold maxLen;omega)(by omega)(by omega) _ rfl ?_;intro g' sA w8 eA bA mA pA)
      |go_in)
     go_roundw
     case rel=>
      have kA:∀q,Value.ownBlock _=some q->w.heap.size+1<=q:=fun q hq=>(cA.out.lt hq).1
      refine⟨k+1,by omega,by go_num,?_,tA.out.grown bA(fun q hq=>by have:=kA q hq;omega),jA.grown bA jA.size(fun q hq=>by have:=kA q hq;omega)⟩;show zFK w8(w.heap.size+1) _ W vd(W.pn+k+1);refine zFK.next ?_;rw [yH,nA.out];exact eA
     case measure=>simp [intOf];omega
    ·obtain rfl:k=W.sn:=(by omega);go_wp2;go_ret;exact⟨_,vd,rfl,zFK.at dA.out(fun i hi'=>(fB.out i hi').zRJ hb),hb⟩
end Go.Proofs.YtmgeglgboadfiaaGreatDoor
