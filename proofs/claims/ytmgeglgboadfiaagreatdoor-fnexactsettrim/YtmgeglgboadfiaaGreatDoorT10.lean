/- What spec.l04BornIn answers. -/
import Derived.Test.YtmgeglgboadfiaaGreatDoorT9
set_option linter.unusedVariables false
set_option maxRecDepth 20000
set_option maxHeartbeats 4000000
namespace Go.Proofs.YtmgeglgboadfiaaGreatDoor
open Go.RowKit Go.Maps
theorem zw.atW{w:World}{base:Nat}{v:Value}{l:List(Int×Int)}(h:zw w base v l)(hm:l.length<=1000):zR w 0 w.heap.size v l.length(zf l)(zh l):=by
 obtain⟨b,h1,h2⟩:=h.own(by unfold maxLen;omega);exact h1.at(fun h0=>⟨Nat.zero_le _,(h2 h0).2.2⟩)
def zQR(now old:List(Int×Int))(t tm:Int)(n:Nat):Prop:=∀i,i<n->zh now i<=tm/\((zf now i,zh now i)∈old↔zh now i<=t)
theorem zKY(aA bA:List(Int×Int))(t tm:Int):zQR aA bA t tm aA.length↔zNf aA bA t tm:=by
 constructor
 ·intro h x hx;obtain⟨j,hj,e⟩:=List.getElem_of_mem hx;have:=h j hj;unfold zf zh at this;rw [yE hj,e] at this;exact this
 ·intro h i hi;have:=h _(List.getElem_mem hi);unfold zf zh;rw [yE hi];exact this
def zCl(W:zH):Prop:=∀k,k<W.pn->1<=(W.zRP k).id
def zKQ(W:zH)(x s b t:Int):Prop:=s=(zN W x).rs/\b=(zN W x).rb/\t=(zN W x).time
theorem zF5{W:zH}{x s b t:Int}(hp:zCl W)(h:zKA W x s b t):zKQ W x s b t:=by
 rcases h with⟨k,_,hk,h1,h2,h3⟩ | ⟨hn,h1,h2,h3⟩
 ·unfold zKQ;rw [yB hk];exact⟨h1,h2,h3⟩
 ·have e:zN W x=yP:=by
   rcases hn with rfl | hn
   ·exact zFX(fun k hk e=>by have:=hp k hk;omega)
   ·exact zFX hn
  unfold zKQ;rw [e];exact⟨h1,h2,h3⟩
theorem zE9(v0 v1 v2 v3:Value)(lo hi:Nat)(W:zH)(x rs rb tm t:Int)(aA bA:List(Int×Int))(w:World)(h:zl w lo hi v0 v1 v2 v3 W)(hR:zv W.zRQ)(hT:qF W.zRQ rs rb)(hA:qF W.zRQ(zN W x).rs(zN W x).rb)(hP:zCl W)(kA:aA=zT W.zRQ rs rb)(jA:bA=zT W.zRQ(zN W x).rs(zN W x).rb)(ht:t=(zN W x).time) :
  Calls Tryz.prog 144 #[zz v0 v1 v2 v3 W,.int .i64 x,.agg #[.int .i64 rs,.int .i64 rb],.int .i64 tm] w fun e w'=>zG(zNf aA bA t tm) e/\Below w.heap.size w w':=by
 have Hp:=zB h;have HR:=zB hR;have HT:=zB hT;have HA:=zB hA;have HP:=zB hP;have gA:=zB kA;have lA:=zB jA;have gB:=zB ht;clear h hR hT hA hP kA jA ht;have ha:=zC w(.cells #[v0,v1,.int .i64 W.time,.int .i64 W.next,v2,v3] 37);have hB:=zi.zRL w v0 v1(.int .i64 W.time)(.int .i64 W.next) v2 v3 37;have aB:=zC(w.alloc(.cells #[v0,v1,.int .i64 W.time,.int .i64 W.next,v2,v3] 37))(.cells #[.int .i64 rs,.int .i64 rb] 61);have hX:=zc.zRL(w.alloc(.cells #[v0,v1,.int .i64 W.time,.int .i64 W.next,v2,v3] 37))(.int .i64 rs)(.int .i64 rb) 61;have vA:=hB.zRJ aB;have pA:=zA ha aB;have jB:(w.alloc(.cells #[v0,v1,.int .i64 W.time,.int .i64 W.next,v2,v3] 37)).heap.size=w.heap.size+1:=World.size_alloc _ _;rw [jB] at hX;clear ha aB hB;go_enter Tryz.func144,Tryz.ntmps144;go_wp2_with fail;generalize((w.alloc(.cells #[v0,v1,.int .i64 W.time,.int .i64 W.next,v2,v3] 37)).alloc(.cells #[.int .i64 rs,.int .i64 rb] 61))=W0 at hX vA pA ⊢;refine(zAr v0 v1 v2 _ lo hi W x W0(Hp.out.zRJ pA)).mono ?_;rintro e w1 ⟨s,b,t',rfl,hF,hb1⟩;have hq:=zF5 HP.out hF;obtain rfl:t=t':=gB.out.trans hq.2.2.symm;have cB:=zB(show qF W.zRQ s b by rw [hq.1,hq.2.1];exact HA.out);have HF:=zB(show bA=zT W.zRQ s b by rw [lA.out,hq.1,hq.2.1]);clear hq gB lA HA;have kB:=hX.zRJ hb1;have fB:=vA.zRJ hb1;have dB:=zA pA hb1;have oA:=zC w1(.cells #[.int .i64 s,.int .i64 b] 61);have iB:=zB(zc.zRL w1(.int .i64 s)(.int .i64 b) 61);have rA:=zB(kB.zRJ oA);have tA:=zB(fB.zRJ oA);have dA:=zA dB oA;clear hX vA pA hb1 jB hF kB fB dB oA;obtain⟨⟨y0,y1⟩,⟨y2,y3⟩⟩:=iB.out;obtain⟨⟨z0,z1⟩,⟨z2,z3⟩⟩:=rA.out;obtain⟨⟨x0,x1⟩,⟨x2,x3⟩,⟨x4,x5⟩,⟨x6,x7⟩,⟨x8,x9⟩,⟨x10,x11⟩⟩:=tA.out;go_wp2_with fail;generalize w1.alloc(.cells #[.int .i64 s,.int .i64 b] 61)=w3 at *;refine(yf v0 v1 lo hi W.zRQ s b w3(Hp.out.zRQ.zRJ dA) HR.out cB.out).mono ?_;rintro e w4 ⟨vo,rfl,hro,hb4⟩;have ho:=(hro.atW(by have:=qM W.zRQ s b;omega));have eB:=zB(rA.out.zRJ hb4);have lB:=zB(tA.out.zRJ hb4);have cA:=zA dA hb4;clear hro hb4 rA tA iB dA x0 x1 x2 x3 x4 x5 x6 x7 x8 x9 x10 x11 y0 y1 y2 y3 z0 z1 z2 z3;obtain⟨⟨z0,z1⟩,⟨z2,z3⟩⟩:=eB.out;obtain⟨⟨x0,x1⟩,⟨x2,x3⟩,⟨x4,x5⟩,⟨x6,x7⟩,⟨x8,x9⟩,⟨x10,x11⟩⟩:=lB.out;go_wp2_with fail;refine(yf v0 v1 lo hi W.zRQ rs rb w4(Hp.out.zRQ.zRJ cA) HR.out HT.out).mono ?_;rintro e w5 ⟨vn,rfl,hrn,hb5⟩;have hn:=(hrn.atW(by have:=qM W.zRQ rs rb;omega));have sA:=ho.zRJ hb5;have eA:=zA cA hb5;clear hrn hb5 eB lB cA ho x0 x1 x2 x3 x4 x5 x6 x7 x8 x9 x10 x11 z0 z1 z2 z3;rw [<-gA.out] at hn;rw [<-HF.out] at sA;clear HF cB HT gA HR HP;obtain⟨mn,an,cn,rfl,mcn,_⟩:=id hn;have Hn:=zB hn;have Ho:=zB sA;clear hn sA;unfold maxLen at mn;go_wp2
 go_loopw [13](fun i wr=>∃k:Nat,k<=aA.length/\i = .int .i64 k/\zQR aA bA t tm k/\Below w5.heap.size w5 wr)(fun i _=>aA.length - (intOf i).toNat)
 case atStart=>exact⟨0,Nat.zero_le _,rfl,fun j hj=>absurd hj(Nat.not_lt_zero _),Below.refl _ _⟩
 case round=>
  obtain⟨k,hk,rfl,hall,hb⟩:=hrel;have iA:=zB hall;clear hall;by_cases nA:k<aA.length
  ·have nB:(k:Int)<(aA.length:Int):=(by omega);obtain⟨b1,off,rfl,q0,q1⟩:=(Hn.out.zRJ hb).zRN nA;by_cases hg:tm<zh aA k
   ·have hd:decide(tm<zh aA k)=true:=(by simp [hg]);have Hg:=zB hg;clear hg;go_wp2
    go_quiet(fail)
    go_wp2;go_ret;exact⟨zG.no fun hA=>absurd((zKY _ _ _ _).2 hA k nA).1(by have:=Hg.out;omega),zg(zA eA hb) _⟩
   ·have hd:decide(tm<zh aA k)=false:=(by simp;omega);have Hg:=zB(show zh aA k<=tm by omega);clear hg;go_wp2_with fail;go_region_held3(fun w'=>w'.cell? ⟨b1,off+k*2,none⟩=some(.int .i64(zf aA k))/\w'.cell? ⟨b1,off+k*2+1,none⟩=some(.int .i64(zh aA k)))(go_keep)
     (first | (go_at_call 142;refine(zDE _ bA.length 0 w4.heap.size(zf bA)(zh bA)(zf aA k)(zh aA k) _ ?_).mono ?_;(exact(Ho.out.zRJ hb).zRJ((Below.refl _ _).drew));rintro e w6 ⟨⟨t6,rfl,ht6⟩,hb6⟩;have z1:=(hb6.cell(p:=⟨b1,off+k*2,none⟩)(zD q0)).trans q0;have z2:=(hb6.cell(p:=⟨b1,off+k*2+1,none⟩)(zD q1)).trans q1))
    have bB:=qh hb hb6;have mB:=zB(ht6.trans zBT);clear ht6 hb6 z1 z2 q0 q1 hd;have fA:(t6 == decide(zh aA k<=t))=true↔((zf aA k,zh aA k)∈bA↔zh aA k<=t):=by
     have ho:=mB.out;cases t6<;>simp_all
    have mA:=zB fA;clear fA;cases hc:(t6 == decide(zh aA k<=t))
    ·go_wp2;go_ret;exact⟨zG.no fun hA=>absurd(mA.out.2((zKY _ _ _ _).2 hA k nA).2)(by simp [hc]),zA eA bB⟩
    ·go_wp2;go_roundw
     case rel=>exact⟨k+1,by omega,by go_num,zo nA iA.out ⟨Hg.out,mA.out.1 hc⟩,bB⟩
     case measure=>simp [intOf];omega
  ·obtain rfl:k=aA.length:=(by omega);go_wp2;go_ret;exact⟨zG.yes((zKY _ _ _ _).1 iA.out),zA eA hb⟩
theorem zJt{l m:List(Int×Int)}{k:Nat}(hk:k<l.length)(h:(zf l k,zh l k)∈m):zAQ(l.take(k+1)) m=zAQ(l.take k) m:=by
 unfold zf zh at h;rw [yE hk] at h;unfold zAQ;rw [List.take_succ_eq_append_getElem hk,List.filter_append,List.filter_cons];simp only [List.filter_nil];rw [if_neg(by simp;exact h),List.append_nil]
theorem zIB{l m:List(Int×Int)}{k:Nat}(hk:k<l.length)(h:(zf l k,zh l k)∉m):zAQ(l.take(k+1)) m=zAQ(l.take k) m ++ [(zf l k,zh l k)]:=by
 unfold zf zh at h ⊢;rw [yE hk] at h ⊢;unfold zAQ;rw [List.take_succ_eq_append_getElem hk,List.filter_append,List.filter_cons];simp only [List.filter_nil];rw [if_pos(by simp;exact h)]
theorem zME(l m:List(Int×Int))(k:Nat):(zAQ(l.take k) m).length<=k:=by
 unfold zAQ;exact Nat.le_trans(List.length_filter_le _ _)(by rw [List.length_take];omega)
theorem zGz(v0 v1 v2 v3 vd:Value)(lo hi gB tB dn:Nat)(ds db:Nat->Int)(W:zH)(x rs rb:Int)(cA aA:List(Int×Int))(w:World)(h:zl w lo hi v0 v1 v2 v3 W)(hD:zR w gB tB vd dn ds db)(hR:zv W.zRQ)(hT:qF W.zRQ rs rb)(hA:qF W.zRQ(zN W x).rs(zN W x).rb)(hP:zCl W)(mA:cA=zT W.zRQ rs rb)(lA:aA=zT W.zRQ(zN W x).rs(zN W x).rb) :
  Calls Tryz.prog 72 #[zz v0 v1 v2 v3 W,.int .i64 x,.agg #[.int .i64 rs,.int .i64 rb],vd] w fun e w'=>zG(zDZ dn ds db(zAQ aA cA)) e/\Below w.heap.size w w':=by
 have Hp:=zB h;have HR:=zB hR;have HT:=zB hT;have HA:=zB hA;have HP:=zB hP;have jA:=zB mA;have oA:=zB lA;have HD:=zB hD;clear h hR hT hA hP mA lA hD;have ha:=zC w(.cells #[v0,v1,.int .i64 W.time,.int .i64 W.next,v2,v3] 37);have hB:=zi.zRL w v0 v1(.int .i64 W.time)(.int .i64 W.next) v2 v3 37;have cB:=zC(w.alloc(.cells #[v0,v1,.int .i64 W.time,.int .i64 W.next,v2,v3] 37))(.cells #[.int .i64 rs,.int .i64 rb] 61);have hX:=zc.zRL(w.alloc(.cells #[v0,v1,.int .i64 W.time,.int .i64 W.next,v2,v3] 37))(.int .i64 rs)(.int .i64 rb) 61;have bB:=hB.zRJ cB;have sA:=zA ha cB;have rB:(w.alloc(.cells #[v0,v1,.int .i64 W.time,.int .i64 W.next,v2,v3] 37)).heap.size=w.heap.size+1:=World.size_alloc _ _;rw [rB] at hX;clear ha cB hB;go_enter Tryz.func72,Tryz.ntmps72;go_wp2_with fail;generalize((w.alloc(.cells #[v0,v1,.int .i64 W.time,.int .i64 W.next,v2,v3] 37)).alloc(.cells #[.int .i64 rs,.int .i64 rb] 61))=W0 at hX bB sA ⊢;refine(zAr v0 v1 v2 _ lo hi W x W0(Hp.out.zRJ sA)).mono ?_;rintro e w1 ⟨s,b,t,rfl,hF,hb1⟩;have hq:=zF5 HP.out hF;have jB:=zB(show qF W.zRQ s b by rw [hq.1,hq.2.1];exact HA.out);have HF:=zB(show aA=zT W.zRQ s b by rw [oA.out,hq.1,hq.2.1]);clear hq oA HA;have sB:=hX.zRJ hb1;have mB:=bB.zRJ hb1;have kB:=zA sA hb1;have rA:=zC w1(.cells #[.int .i64 s,.int .i64 b] 61);have pB:=zB(zc.zRL w1(.int .i64 s)(.int .i64 b) 61);have tA:=zB(sB.zRJ rA);have vA:=zB(mB.zRJ rA);have iA:=zA kB rA;clear hX bB sA hb1 rB hF sB mB kB rA;obtain⟨⟨y0,y1⟩,⟨y2,y3⟩⟩:=pB.out;obtain⟨⟨z0,z1⟩,⟨z2,z3⟩⟩:=tA.out;obtain⟨⟨x0,x1⟩,⟨x2,x3⟩,⟨x4,x5⟩,⟨x6,x7⟩,⟨x8,x9⟩,⟨x10,x11⟩⟩:=vA.out;go_wp2_with fail;generalize w1.alloc(.cells #[.int .i64 s,.int .i64 b] 61)=w3 at *;refine(yf v0 v1 lo hi W.zRQ s b w3(Hp.out.zRQ.zRJ iA) HR.out jB.out).mono ?_;rintro e w4 ⟨vo,rfl,hro,hb4⟩;have ho:=(hro.atW(by have:=qM W.zRQ s b;omega));have lB:=zB(tA.out.zRJ hb4);have vB:=zB(vA.out.zRJ hb4);have fA:=zA iA hb4;clear hro hb4 tA vA pB iA x0 x1 x2 x3 x4 x5 x6 x7 x8 x9 x10 x11 y0 y1 y2 y3 z0 z1 z2 z3;obtain⟨⟨z0,z1⟩,⟨z2,z3⟩⟩:=lB.out;obtain⟨⟨x0,x1⟩,⟨x2,x3⟩,⟨x4,x5⟩,⟨x6,x7⟩,⟨x8,x9⟩,⟨x10,x11⟩⟩:=vB.out;go_wp2_with fail;refine(yf v0 v1 lo hi W.zRQ rs rb w4(Hp.out.zRQ.zRJ fA) HR.out HT.out).mono ?_;rintro e w5 ⟨vn,rfl,hrn,hb5⟩;have hn:=(hrn.atW(by have:=qM W.zRQ rs rb;omega));have pA:=ho.zRJ hb5;have nA:=zA fA hb5;clear hrn hb5 lB vB fA ho x0 x1 x2 x3 x4 x5 x6 x7 x8 x9 x10 x11 z0 z1 z2 z3;have HL:=zB(show cA.length<=73/\aA.length<=73 by rw [jA.out,HF.out];exact⟨qM _ _ _,qM _ _ _⟩);rw [<-jA.out] at hn;rw [<-HF.out] at pA;clear HF jB HT jA HR HP;obtain⟨mo,ao,co,rfl,mco,_⟩:=id pA;have lC:aA.length<=73:=HL.out.2;have Hn:=zB hn;have Ho:=zB pA;have eC:=zB(HD.out.zRJ nA);clear hn pA HD;unfold maxLen at mo;obtain⟨i0,hi0,hzz⟩:=Option.map_eq_some_iff.1 zA1;simp only [Prod.mk.injEq] at hzz;have HI:=zB(And.intro hi0 hzz);clear hi0 hzz;have iB:=zB(zC w5(.cells #[] 61));have nB:=zB(show zw(w5.alloc(.cells #[] 61)) w5.heap.size(.slice(some ⟨w5.heap.size,0,none⟩) 0 0) [] from World.ownsRow_lit(e:=61)(size:=2) w5 #[] 0(Nat.le_refl _)(by unfold maxLen;omega) rfl);go_wp2
 go_loopw [13,14](fun vw i wr=>∃k:Nat,k<=aA.length/\i = .int .i64 k/\zw wr w5.heap.size vw(zAQ(aA.take k) cA)/\Below w5.heap.size w5 wr)(fun _ i _=>aA.length - (intOf i).toNat)
 case atStart=>exact⟨0,Nat.zero_le _,rfl,by rw [List.take_zero];exact nB.out,iB.out⟩
 case round=>
  obtain⟨k,hk,rfl,hrow,hb⟩:=hrel;have dA:=zB hrow;clear hrow nB iB;by_cases dB:k<aA.length
  ·have iC:(k:Int)<(aA.length:Int):=(by omega);obtain⟨b1,off,rfl,q0,q1⟩:=(Ho.out.zRJ hb).zRN dB;go_wp2_with fail;refine(zDE _ cA.length 0 w5.heap.size(zf cA)(zh cA)(zf aA k)(zh aA k) _(Hn.out.zRJ hb)).mono ?_;rintro e w6 ⟨⟨t6,rfl,ht6⟩,hb6⟩;have z0:=(hb6.cell(p:=⟨b1,off+k*2,none⟩)(zD q0)).trans q0;have z1:=(hb6.cell(p:=⟨b1,off+k*2+1,none⟩)(zD q1)).trans q1;have aB:=zA hb hb6;have bA:=zB(dA.out.zRJ hb6);have eB:=zB(ht6.trans zBT);clear ht6 hb6 q0 q1 dA;cases t6
   ·have fB:=zC w6(.cells #[.int .i64(zf aA k),.int .i64(zh aA k)] 61);have eA:=zB(bA.out.zRJ fB);have oB:=zA aB fB;have mC:=aB.size;have jC:(w6.alloc(.cells #[.int .i64(zf aA k),.int .i64(zh aA k)] 61)).heap.size=w6.heap.size+1:=World.size_alloc _ _;have HN:=zB(World.news_of_block(heap_alloc_last w6(.cells #[.int .i64(zf aA k),.int .i64(zh aA k)] 61)));have cC:=zME aA cA k;clear fB bA;go_wp2_with(first
     |(at_builtin;refine wpList_append_lies _ rfl _ _ 62 rfl w5.heap.size 61 i0(.agg #[.int .i64 0,.int .i64 0]) 2 16(by kernel_rfl) HI.out.1 HI.out.2.1 HI.out.2.2.1 HI.out.2.2.2 rfl(by decide) _ _ _ rfl eA.out ⟨w6.heap.size,0,none⟩ 1 1 [.int .i64(zf aA k),.int .i64(zh aA k)] rfl rfl HN.out(by simp [Value.oneCell'])(by decide)(by unfold maxLen;omega)(by omega)(by omega) _ rfl ?_;intro g' fC w8 kA gA aC dC)
     |go_in)
    go_roundw
    case rel=>exact⟨k+1,by omega,by go_num,by rw [zIB dB(fun h=>absurd(eB.out.2 h)(by simp))];exact zw.next kA,oB.grown gA oB.size(fun q hq=>(eA.out.lt hq).1)⟩
    case measure=>simp [intOf];omega
   ·have Hm:=zB(eB.out.1 rfl);clear eB;go_wp2;go_roundw
    case rel=>exact⟨k+1,by omega,by go_num,by rw [zJt dB Hm.out];exact bA.out,aB⟩
    case measure=>simp [intOf];omega
  ·obtain rfl:k=aA.length:=(by omega);have hw:=dA.out;rw [List.take_length] at hw;have kC:(zAQ aA cA).length<=aA.length:=List.length_filter_le _ _;have gC:=hw.atW(by omega);clear hw dA;go_wp2_with fail;refine(zGb vd _ dn gB tB _ 0 wr.heap.size ds db _ _ wr(eC.out.zRJ hb) gC).mono ?_;rintro e w6 ⟨⟨t6,rfl,ht6⟩,hb6⟩;have bC:=zB ht6;clear ht6;go_wp2;go_ret;exact⟨⟨t6,rfl,bC.out⟩,zA nA(zA hb hb6)⟩
def zCm(W:zH)(i:Nat):Prop:=zNf(yV W(zO W i))(zCr W(zO W i))(zN W(zO W i).zRT).time(zO W i).time
theorem zBI.snap{W:zH}(h:zBI W){k:Nat}(hk:k<W.pn):qF W.zRQ(W.zRP k).rs(W.zRP k).rb:=by
 have:=h.tree k(by unfold zq;omega);rw [qS hk] at this;exact this
theorem zBI.set{W:zH}(h:zBI W){k:Nat}(hk:k<W.sn):qF W.zRQ(W.zRS k).rs(W.zRS k).rb:=by
 have:=h.tree(W.pn+k)(by unfold zq;omega);rw [yH] at this;exact this
theorem zLH{v0 v1 v2 v3:Value}{lo hi:Nat}{W:zH}{w:World}(h:zl w lo hi v0 v1 v2 v3 W)(hT:zBI W)(hP:zCl W){k:Nat}(hk:k<W.pn)(w':World)(hb:Below w.heap.size w w') :
  Calls Tryz.prog 144 #[zz v0 v1 v2 v3 W,.int .i64(W.zRP k).zRT,.agg #[.int .i64(W.zRP k).rs,.int .i64(W.zRP k).rb],.int .i64(W.zRP k).time] w' fun e aA=>zG(zCm W k) e/\Below w'.heap.size w' aA:=by
 unfold zCm;rw [qS hk];exact zE9 v0 v1 v2 v3 lo hi W _ _ _ _ _ _ _ w'(h.zRJ hb) hT.right(hT.snap hk)(hT.old _) hP rfl rfl rfl
theorem zNB{v0 v1 v2 v3:Value}{lo hi:Nat}{W:zH}{w:World}(h:zl w lo hi v0 v1 v2 v3 W)(hT:zBI W)(hP:zCl W){k:Nat}(hk:k<W.sn)(w':World)(hb:Below w.heap.size w w') :
  Calls Tryz.prog 144 #[zz v0 v1 v2 v3 W,.int .i64(W.zRS k).zRT,.agg #[.int .i64(W.zRS k).rs,.int .i64(W.zRS k).rb],.int .i64 W.time] w' fun e aA=>zG(zCm W(W.pn+k)) e/\Below w'.heap.size w' aA:=by
 unfold zCm;rw [yH];exact zE9 v0 v1 v2 v3 lo hi W _ _ _ _ _ _ _ w'(h.zRJ hb) hT.right(hT.set hk)(hT.old _) hP rfl rfl rfl
theorem zLW(v0 v1 v2 v3:Value)(lo hi:Nat)(W:zH)(w:World)(h:zl w lo hi v0 v1 v2 v3 W)(hT:zBI W)(hP:zCl W) :
  Calls Tryz.prog 76 #[zz v0 v1 v2 v3 W] w fun e w'=>zG(∀i,i<zq W->zCm W i) e/\Below w.heap.size w w':=by
 have Hp:=zB h;have HT:=zB hT;have HP:=zB hP;obtain⟨m1,a,c,rfl,mc,_⟩:=id h.zRP;obtain⟨m2,a',c',rfl,mc',_⟩:=id h.zRS;unfold maxLen at m1 m2;clear h hT hP;have ha:=zC w(.cells #[v0,v1,.int .i64 W.time,.int .i64 W.next,.slice a' W.sn c',.slice a W.pn c] 37);have HB:=zB(zi.zRL w v0 v1(.int .i64 W.time)(.int .i64 W.next)(.slice a' W.sn c')(.slice a W.pn c) 37);go_enter Tryz.func76,Tryz.ntmps76;go_wp2
 go_loopw [3](fun i wr=>∃k:Nat,k<=W.pn/\i = .int .i64 k/\(∀j,j<k->zCm W j)/\zi wr w.heap.size v0 v1(.int .i64 W.time)(.int .i64 W.next)(.slice a' W.sn c')(.slice a W.pn c)/\Below w.heap.size w wr)(fun i _=>W.pn - (intOf i).toNat)
 case atStart=>exact⟨0,Nat.zero_le _,rfl,fun j hj=>absurd hj(Nat.not_lt_zero _),HB.out,ha⟩
 case round=>
  obtain⟨k,hk,rfl,hall,hX,hb⟩:=hrel;have aA:=zB hall;have HX:=zB hX;clear hall hX ha HB;obtain⟨⟨x0,x1⟩,⟨x2,x3⟩,⟨x4,x5⟩,⟨x6,x7⟩,⟨x8,x9⟩,⟨x10,x11⟩⟩:=HX.out;by_cases bA:k<W.pn
  ·have eA:(k:Int)<(W.pn:Int):=(by omega);have Hc:=zB(zLH(Hp.out.zRJ hb) HT.out HP.out bA);obtain⟨b,off,vd,rfl,hs⟩:=(Hp.out.zRP.zRJ hb).cells bA;have q3:=hs.c3;have q4:=hs.c4;have q5:=hs.c5;have q6:=hs.c6;clear hs x1 x3 x5 x7 x9 x11;go_wp2_with fail;go_region_held3(fun w'=>w'.cell? ⟨w.heap.size,0,none⟩=some v0/\w'.cell? ⟨w.heap.size,1,none⟩=some v1/\w'.cell? ⟨w.heap.size,2,none⟩=some(.int .i64 W.time)/\w'.cell? ⟨w.heap.size,3,none⟩=some(.int .i64 W.next)/\w'.cell? ⟨w.heap.size,4,none⟩=some(.slice a' W.sn c')/\w'.cell? ⟨w.heap.size,5,none⟩=some(.slice(some ⟨b,off,none⟩) W.pn c)/\w'.cell? ⟨b,off+k*8+3,none⟩=some(.int .i64(W.zRP k).zRT)/\w'.cell? ⟨b,off+k*8+4,none⟩=some(.int .i64(W.zRP k).time)/\w'.cell? ⟨b,off+k*8+5,none⟩=some(.int .i64(W.zRP k).rs)/\w'.cell? ⟨b,off+k*8+6,none⟩=some(.int .i64(W.zRP k).rb))(go_keep)
    (first | (go_at_call 144;refine(Hc.out _ ?_).mono ?_;(exact(Below.refl _ _).drew);rintro e w6 ⟨⟨t6,rfl,ht6⟩,hb6⟩;obtain⟨⟨y0,_⟩,⟨y1,_⟩,⟨y2,_⟩,⟨y3,_⟩,⟨y4,_⟩,⟨y5,_⟩⟩:=HX.out.zRJ(zK hb6);have z3:=(hb6.cell(p:=⟨b,off+k*8+3,none⟩)(zD q3)).trans q3;have z4:=(hb6.cell(p:=⟨b,off+k*8+4,none⟩)(zD q4)).trans q4;have z5:=(hb6.cell(p:=⟨b,off+k*8+5,none⟩)(zD q5)).trans q5;have z6:=(hb6.cell(p:=⟨b,off+k*8+6,none⟩)(zD q6)).trans q6))
   have cA:=qh hb hb6;have dA:=zB(HX.out.zRJ(zK hb6));have Ht:=zB ht6;clear ht6 hb6 z3 z4 z5 z6 y0 y1 y2 y3 y4 y5 q3 q4 q5 q6 HX;cases t6
   ·have Hn:=zB(show ¬zCm W k from fun hA=>absurd(Ht.out.2 hA)(by simp));clear Ht;go_wp2;go_ret;exact⟨zG.no fun hA=>Hn.out(hA k(by unfold zq;omega)),cA⟩
   ·have Hn:=zB(Ht.out.1 rfl);clear Ht;go_wp2;go_roundw
    case rel=>exact⟨k+1,by omega,by go_num,zo bA aA.out Hn.out,dA.out,cA⟩
    case measure=>simp [intOf];omega
  ·obtain rfl:k=W.pn:=(by omega);go_wp2
   go_loopw [4](fun i wr=>∃k:Nat,k<=W.sn/\i = .int .i64 k/\(∀j,j<W.pn+k->zCm W j)/\zi wr w.heap.size v0 v1(.int .i64 W.time)(.int .i64 W.next)(.slice a' W.sn c')(.slice a W.pn c)/\Below w.heap.size w wr)(fun i _=>W.sn - (intOf i).toNat)
   case atStart=>exact⟨0,Nat.zero_le _,rfl,aA.out,HX.out,hb⟩
   case round=>
    clear x0 x1 x2 x3 x4 x5 x6 x7 x8 x9 x10 x11 HX hb aA;obtain⟨k,hk,rfl,hall,hX,hb⟩:=hrel;have aA:=zB hall;have HX:=zB hX;clear hall hX;obtain⟨⟨x0,x1⟩,⟨x2,x3⟩,⟨x4,x5⟩,⟨x6,x7⟩,⟨x8,x9⟩,⟨x10,x11⟩⟩:=HX.out;by_cases bA:k<W.sn
    ·have eA:(k:Int)<(W.sn:Int):=(by omega);have Hc:=zB(zNB(Hp.out.zRJ hb) HT.out HP.out bA);obtain⟨b,off,vd,rfl,hs⟩:=(Hp.out.zRS.zRJ hb).cells bA;have q3:=hs.c2;have q5:=hs.c3;have q6:=hs.c4;clear hs x1 x3 x5 x7 x9 x11;go_wp2_with fail;go_region_held3(fun w'=>w'.cell? ⟨w.heap.size,0,none⟩=some v0/\w'.cell? ⟨w.heap.size,1,none⟩=some v1/\w'.cell? ⟨w.heap.size,2,none⟩=some(.int .i64 W.time)/\w'.cell? ⟨w.heap.size,3,none⟩=some(.int .i64 W.next)/\w'.cell? ⟨w.heap.size,4,none⟩=some(.slice(some ⟨b,off,none⟩) W.sn c')/\w'.cell? ⟨w.heap.size,5,none⟩=some(.slice a W.pn c)/\w'.cell? ⟨b,off+k*6+2,none⟩=some(.int .i64(W.zRS k).zRT)/\w'.cell? ⟨b,off+k*6+3,none⟩=some(.int .i64(W.zRS k).rs)/\w'.cell? ⟨b,off+k*6+4,none⟩=some(.int .i64(W.zRS k).rb))(go_keep)
      (first | (go_at_call 144;refine(Hc.out _ ?_).mono ?_;(exact(Below.refl _ _).drew);rintro e w6 ⟨⟨t6,rfl,ht6⟩,hb6⟩;obtain⟨⟨y0,_⟩,⟨y1,_⟩,⟨y2,_⟩,⟨y3,_⟩,⟨y4,_⟩,⟨y5,_⟩⟩:=HX.out.zRJ(zK hb6);have z3:=(hb6.cell(p:=⟨b,off+k*6+2,none⟩)(zD q3)).trans q3;have z5:=(hb6.cell(p:=⟨b,off+k*6+3,none⟩)(zD q5)).trans q5;have z6:=(hb6.cell(p:=⟨b,off+k*6+4,none⟩)(zD q6)).trans q6))
     have cA:=qh hb hb6;have dA:=zB(HX.out.zRJ(zK hb6));have Ht:=zB ht6;clear ht6 hb6 z3 z5 z6 y0 y1 y2 y3 y4 y5 q3 q5 q6 HX;cases t6
     ·have Hn:=zB(show ¬zCm W(W.pn+k)from fun hA=>absurd(Ht.out.2 hA)(by simp));clear Ht;go_wp2;go_ret;exact⟨zG.no fun hA=>Hn.out(hA _(by unfold zq;omega)),cA⟩
     ·have Hn:=zB(Ht.out.1 rfl);clear Ht;go_wp2;go_roundw
      case rel=>
       refine⟨k+1,by omega,by go_num,fun j hj=>?_,dA.out,cA⟩;by_cases e:j=W.pn+k
       ·subst e;exact Hn.out
       ·exact aA.out j(by omega)
      case measure=>simp [intOf];omega
    ·obtain rfl:k=W.sn:=(by omega);go_wp2;go_ret;exact⟨zG.yes aA.out,hb⟩
def yW(w:World)(R n:Nat)(f:Nat->Bool):Prop:=∀i,i<n->zX w R i(.bool(f i))
theorem yW.zRJ{w w':World}{R n:Nat}{f:Nat->Bool}(h:yW w R n f)(t:Below w.heap.size w w'):yW w' R n f:=fun i hi=>(h i hi).zRJ t
theorem yW.put{w:World}{R n:Nat}{f:Nat->Bool}(h:yW w R n f){k:Nat}(c:Bool):yW(w.setCell ⟨R,k,none⟩(.bool c)) R n(fun i=>if i=k then c else f i):=fun i hi=>by
 by_cases e:i=k
 ·subst e;show zX _ R i(.bool(if i=i then c else f i));rw [if_pos rfl];exact(h i hi).set _
 ·show zX _ R i(.bool(if i=k then c else f i));rw [if_neg e];exact(h i hi).zRK _(Or.inr(fun h=>e h.symm))
theorem zQH(z:Value)(n:Nat){i:Nat}(hi:i<n):(madeCells #[z] n)[i]?=some z:=by
 simp [madeCells,hi,Nat.mod_one]
theorem yW.zRL(w:World)(n:Nat)(t:TypeId):yW(w.alloc(.cells(madeCells #[.bool false] n) t)) w.heap.size n(fun _=>false):=fun i hi=>by
 have hb:(w.alloc(.cells(madeCells #[Value.bool false] n) t)).heap[w.heap.size]?=some(.cells(madeCells #[.bool false] n) t):=heap_alloc_new _ _;exact zI hb(zQH _ _ hi)
theorem zO9:(Tryz.prog.info? 4).map(fun i=>(i.zero,i.size,i.bytes))=some(some(.bool false),1,1):=by kernel_rfl
theorem zEN(n:Nat)(hn:n<=1000)(w:World):(Instr.makeSlice 123(.int .i64(n:Int))(.int .i64(n:Int))).run Tryz.prog w = .ok(.slice(some ⟨w.heap.size,0,none⟩) n n)(w.alloc(.cells(madeCells #[.bool false] n) 4)):=
 run_make_row' 123 4(.bool false) 1(by kernel_rfl) zO9 rfl .i64 .i64 n(by omega)(by omega) w
def zFS(W:zH)(s:Nat):Prop:=∃m,m<zq W/\∃b,((s:Int),b)∈yV W(zO W m)
def zBc(W:zH)(i:Nat):Int×Int:=if i<W.sn then((W.zRS i).rs,(W.zRS i).rb)else((W.zRP(i - W.sn)).rs,(W.zRP(i - W.sn)).rb)
def zB7(W:zH)(n:Nat):List(Int×Int):=(List.range n).map(zBc W)
theorem zBo(W:zH)(n:Nat):(zB7 W n).length=n:=by simp [zB7]
theorem zG3(W:zH)(n:Nat):zB7 W(n+1)=zB7 W n ++ [zBc W n]:=by simp [zB7,List.range_succ]
theorem zEZ{W:zH}{i:Nat}(h:i<W.sn):zBc W i=((W.zRS i).rs,(W.zRS i).rb):=if_pos h
theorem zDg(W:zH)(i:Nat):zBc W(W.sn+i)=((W.zRP i).rs,(W.zRP i).rb):=by
 unfold zBc;rw [if_neg(by omega),show W.sn+i - W.sn=i by omega]
theorem zNv{W:zH}{n i:Nat}(h:i<n):zf(zB7 W n) i=(zBc W i).1/\zh(zB7 W n) i=(zBc W i).2:=by
 unfold zf zh;rw [yE(by rw [zBo];exact h)];simp [zB7]
theorem zOs{W:zH}(hT:zBI W){i:Nat}(hi:i<W.sn+W.pn):qF W.zRQ(zBc W i).1(zBc W i).2:=by
 by_cases h:i<W.sn
 ·rw [zEZ h];exact hT.set h
 ·have:=zDg W(i - W.sn);rw [show W.sn+(i - W.sn)=i by omega] at this;rw [this];exact hT.snap(by omega)
theorem zMb{W:zH}{s:Nat}:zFS W s↔∃i,i<W.sn+W.pn/\∃b,((s:Int),b)∈zT W.zRQ(zBc W i).1(zBc W i).2:=by
 unfold zFS zq yV;constructor
 ·rintro⟨m,hm,b,h⟩;by_cases hp:m<W.pn
  ·rw [qS hp] at h;exact⟨W.sn+m,by omega,b,by rw [zDg];exact h⟩
  ·have e:=yH W(m - W.pn);rw [show W.pn+(m - W.pn)=m by omega] at e;rw [e] at h;exact⟨m - W.pn,by omega,b,by rw [zEZ(by omega)];exact h⟩
 ·rintro⟨i,hi,b,h⟩;by_cases hs:i<W.sn
  ·rw [zEZ hs] at h;exact⟨W.pn+i,by omega,b,by rw [yH];exact h⟩
  ·have e:=zDg W(i - W.sn);rw [show W.sn+(i - W.sn)=i by omega] at e;rw [e] at h;exact⟨i - W.sn,by omega,b,by rw [qS(by omega)];exact h⟩
def zQ8(W:zH)(k:Nat)(l:List(Int×Int))(j s:Nat):Prop:=(∃i,i<k/\∃b,((s:Int),b)∈zT W.zRQ(zBc W i).1(zBc W i).2)\/∃q,q<j/\zf l q=(s:Int)
def zET(W:zH)(k:Nat)(l:List(Int×Int))(j:Nat)(f:Nat->Bool):Prop:=∀s,f s=true↔zQ8 W k l j s
theorem zMS{W:zH}{k j s:Nat}{l:List(Int×Int)}{f:Nat->Bool}(h:zET W k l j f)(hs:zf l j=(s:Int)):zET W k l(j+1)(fun i=>if i=s then true else f i):=by
 intro i;show(if i=s then true else f i)=true↔_;by_cases e:i=s
 ·subst e;rw [if_pos rfl];exact⟨fun _=>Or.inr ⟨j,by omega,hs⟩,fun _=>rfl⟩
 ·rw [if_neg e,h i];constructor
  ·rintro(h | ⟨q,hq,h⟩)
   ·exact Or.inl h
   ·exact Or.inr ⟨q,by omega,h⟩
  ·rintro(h | ⟨q,hq,h⟩)
   ·exact Or.inl h
   ·by_cases eq:q=j
    ·subst eq;exact absurd(by omega) e
    ·exact Or.inr ⟨q,by omega,h⟩
theorem zMj{W:zH}{k:Nat}{l:List(Int×Int)}{f:Nat->Bool}(h:zET W k l l.length f)(hl:l=zT W.zRQ(zBc W k).1(zBc W k).2):zET W(k+1) [] 0 f:=by
 intro s;rw [h s];constructor
 ·rintro(⟨i,hi,h⟩ | ⟨q,hq,e⟩)
  ·exact Or.inl ⟨i,by omega,h⟩
  ·refine Or.inl ⟨k,by omega,(l[q]).2,?_⟩;unfold zf at e;rw [yE hq] at e;rw [<-hl,<-e];exact List.getElem_mem hq
 ·rintro(⟨i,hi,b,h2⟩ | ⟨q,hq,e⟩)
  ·by_cases e:i=k
   ·subst e;rw [<-hl] at h2;obtain⟨q,hq,e⟩:=List.getElem_of_mem h2;exact Or.inr ⟨q,hq,by unfold zf;rw [yE hq,e]⟩
   ·exact Or.inl ⟨i,by omega,b,h2⟩
  ·omega
theorem zLo{W:zH}{k:Nat}{f:Nat->Bool}(h:zET W k [] 0 f)(l:List(Int×Int)):zET W k l 0 f:=by
 intro s;rw [h s];constructor
 ·rintro(h | ⟨q,hq,_⟩)
  ·exact Or.inl h
  ·omega
 ·rintro(h | ⟨q,hq,_⟩)
  ·exact Or.inl h
  ·omega
theorem zIE{p:zJ}{rs rb:Int}(hR:zv p)(hT:qF p rs rb){j:Nat}(hj:j<(zT p rs rb).length):∃s:Nat,zf(zT p rs rb) j=(s:Int)/\s<p.n:=by
 unfold zf;rw [yE hj];have:=(zAW hR hT(List.getElem_mem hj)).1;obtain⟨_,h0,h1,_⟩:=this;exact⟨((zT p rs rb)[j]).1.toNat,by omega,by omega⟩
theorem zi.grown{w w1:World}{b:Nat}{v0 v1 v2 v3 v4 v5:Value}{row:Option Nat}(h:zi w b v0 v1 v2 v3 v4 v5)(hg:w.grownBy w1 row)(aA:∀q,row=some q->b≠q):zi w1 b v0 v1 v2 v3 v4 v5:=by
 have hb:b<w.heap.size:=h.1.lt;refine h.zRR(S:=fun k=>row=some k) ⟨hg.os,hg.tape,hg.output,hg.size,fun k hk hs=>hg.block k hk(fun e=>hs e.symm)⟩(fun e=>aA b e rfl)
theorem yW.grown{w w1:World}{R n:Nat}{f:Nat->Bool}{row:Option Nat}(h:yW w R n f)(hg:w.grownBy w1 row)(aA:∀q,row=some q->R≠q):yW w1 R n f:=fun i hi=>
 (h i hi).zRR(S:=fun k=>row=some k) ⟨hg.os,hg.tape,hg.output,hg.size,fun k hk hs=>hg.block k hk(fun e=>hs e.symm)⟩(fun e=>aA R e rfl)
end Go.Proofs.YtmgeglgboadfiaaGreatDoor
