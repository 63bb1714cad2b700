/- What spec.l04BornIn answers. -/
import Derived.Test.YtmgeglgboadfiaaGreatDoorT5
set_option linter.unusedVariables false
set_option maxRecDepth 20000
set_option maxHeartbeats 4000000
namespace Go.Proofs.YtmgeglgboadfiaaGreatDoor
open Go.RowKit Go.Maps
theorem zw.atW{w:World}{base:Nat}{v:Value}{l:List (Int×Int)}(h:zw w base v l)(hm:l.length<=1000):zR w 0 w.heap.size v l.length (zf l) (zh l):=by
 obtain⟨b,h1,h2⟩:=h.own (by unfold maxLen;omega);exact h1.at (fun h0=>⟨Nat.zero_le _,(h2 h0).2.2⟩)
def zQS(now old:List (Int×Int))(t tm:Int)(n:Nat):Prop:=∀i,i<n->zh now i<=tm/\((zf now i,zh now i)∈old↔zh now i<=t)
theorem zKR(aA bA:List (Int×Int))(t tm:Int):zQS aA bA t tm aA.length↔zND aA bA t tm:=by
 constructor
 ·intro h x hx;obtain⟨j,hj,e⟩:=List.getElem_of_mem hx;have:=h j hj;unfold zf zh at this;rw[yE hj,e]at this;exact this
 ·intro h i hi;have:=h _ (List.getElem_mem hi);unfold zf zh;rw[yE hi];exact this
def zCo(W:zH):Prop:=∀k,k<W.pn->1<=(W.zRP k).id
def zKd(W:zH)(x s b t:Int):Prop:=s=(zN W x).rs/\b=(zN W x).rb/\t=(zN W x).time
theorem zF1{W:zH}{x s b t:Int}(hp:zCo W)(h:zJx W x s b t):zKd W x s b t:=by
 rcases h with⟨k,_,hk,h1,h2,h3⟩ | ⟨hn,h1,h2,h3⟩
 ·unfold zKd;rw[yB hk];exact⟨h1,h2,h3⟩
 ·have e:zN W x=yP:=by
   rcases hn with rfl | hn
   ·exact zFE (fun k hk e=>by have:=hp k hk;omega)
   ·exact zFE hn
  unfold zKd;rw[e];exact⟨h1,h2,h3⟩
theorem zE7(v0 v1 v2 v3:Value)(lo hi:Nat)(W:zH)(x rs rb tm t:Int)(aA bA:List (Int×Int))(w:World)(h:zl w lo hi v0 v1 v2 v3 W)(hR:zv W.zRQ)(hT:qF W.zRQ rs rb)(hA:qF W.zRQ (zN W x).rs (zN W x).rb)(hP:zCo W)(fA:aA=zT W.zRQ rs rb)(kA:bA=zT W.zRQ (zN W x).rs (zN W x).rb)(ht:t=(zN W x).time) :
  Calls Tryz.prog 144 #[zz v0 v1 v2 v3 W,.int .i64 x,.agg #[.int .i64 rs,.int .i64 rb],.int .i64 tm] w fun e w'=>zG (zND aA bA t tm) e/\Below w.heap.size w w':=by
 have Hp:=zB h;have HR:=zB hR;have HT:=zB hT;have HA:=zB hA;have HP:=zB hP;have lA:=zB fA;have jA:=zB kA;have tB:=zB ht;clear h hR hT hA hP fA kA ht;have ha:=zC w (.cells #[v0,v1,.int .i64 W.time,.int .i64 W.next,v2,v3] 37);have hB:=zi.zRL w v0 v1 (.int .i64 W.time) (.int .i64 W.next) v2 v3 37;have bB:=zC (w.alloc (.cells #[v0,v1,.int .i64 W.time,.int .i64 W.next,v2,v3] 37)) (.cells #[.int .i64 rs,.int .i64 rb] 61);have hX:=zc.zRL (w.alloc (.cells #[v0,v1,.int .i64 W.time,.int .i64 W.next,v2,v3] 37)) (.int .i64 rs) (.int .i64 rb) 61;have cB:=hB.zRJ bB;have sA:=zA ha bB;have mB:(w.alloc (.cells #[v0,v1,.int .i64 W.time,.int .i64 W.next,v2,v3] 37)).heap.size=w.heap.size+1:=World.size_alloc _ _;rw[mB]at hX;clear ha bB hB;go_enter Tryz.func144,Tryz.ntmps144;go_wp2_with fail;generalize ((w.alloc (.cells #[v0,v1,.int .i64 W.time,.int .i64 W.next,v2,v3] 37)).alloc (.cells #[.int .i64 rs,.int .i64 rb] 61))=W0 at hX cB sA ⊢;refine(zAl v0 v1 v2 _ lo hi W x W0 (Hp.out.zRJ sA)).mono ?_;rintro e w1 ⟨s,b,t',rfl,hF,vA⟩;have hq:=zF1 HP.out hF;obtain rfl:t=t':=tB.out.trans hq.2.2.symm;have sB:=zB (show qF W.zRQ s b by rw[hq.1,hq.2.1];exact HA.out);have HF:=zB (show bA=zT W.zRQ s b by rw[jA.out,hq.1,hq.2.1]);clear hq tB jA HA;have lB:=hX.zRJ vA;have jB:=cB.zRJ vA;have oB:=zA sA vA;have tA:=zC w1 (.cells #[.int .i64 s,.int .i64 b] 61);have nB:=zB (zc.zRL w1 (.int .i64 s) (.int .i64 b) 61);have iB:=zB (lB.zRJ tA);have eB:=zB (jB.zRJ tA);have cA:=zA oB tA;clear hX cB sA vA mB hF lB jB oB tA;obtain⟨⟨y0,y1⟩,⟨y2,y3⟩⟩:=nB.out;obtain⟨⟨z0,z1⟩,⟨z2,z3⟩⟩:=iB.out;obtain⟨⟨x0,x1⟩,⟨x2,x3⟩,⟨x4,x5⟩,⟨x6,x7⟩,⟨x8,x9⟩,⟨gB,fB⟩⟩:=eB.out;go_wp2_with fail;generalize w1.alloc (.cells #[.int .i64 s,.int .i64 b] 61)=w3 at *;refine(yf v0 v1 lo hi W.zRQ s b w3 (Hp.out.zRQ.zRJ cA) HR.out sB.out).mono ?_;rintro e w4 ⟨vo,rfl,bC,pA⟩;have ho:=(bC.atW (by have:=qN W.zRQ s b;omega));have kB:=zB (iB.out.zRJ pA);have pB:=zB (eB.out.zRJ pA);have dA:=zA cA pA;clear bC pA iB eB nB cA x0 x1 x2 x3 x4 x5 x6 x7 x8 x9 gB fB y0 y1 y2 y3 z0 z1 z2 z3;obtain⟨⟨z0,z1⟩,⟨z2,z3⟩⟩:=kB.out;obtain⟨⟨x0,x1⟩,⟨x2,x3⟩,⟨x4,x5⟩,⟨x6,x7⟩,⟨x8,x9⟩,⟨gB,fB⟩⟩:=pB.out;go_wp2_with fail;refine(yf v0 v1 lo hi W.zRQ rs rb w4 (Hp.out.zRQ.zRJ dA) HR.out HT.out).mono ?_;rintro e w5 ⟨vn,rfl,vB,aB⟩;have hn:=(vB.atW (by have:=qN W.zRQ rs rb;omega));have dB:=ho.zRJ aB;have eA:=zA dA aB;clear vB aB kB pB dA ho x0 x1 x2 x3 x4 x5 x6 x7 x8 x9 gB fB z0 z1 z2 z3;rw[<-lA.out]at hn;rw[<-HF.out]at dB;clear HF sB HT lA HR HP;obtain⟨mn,an,cn,rfl,eC,_⟩:=id hn;have Hn:=zB hn;have Ho:=zB dB;clear hn dB;unfold maxLen at mn;go_wp2
 go_loopw [13] (fun i wr=>∃k:Nat,k<=aA.length/\i = .int .i64 k/\zQS aA bA t tm k/\Below w5.heap.size w5 wr) (fun i _=>aA.length - (intOf i).toNat)
 case atStart=>exact⟨0,Nat.zero_le _,rfl,fun j hj=>absurd hj (Nat.not_lt_zero _),Below.refl _ _⟩
 case round=>
  obtain⟨k,hk,rfl,nA,hb⟩:=hrel;have iA:=zB nA;clear nA;by_cases rA:k<aA.length
  ·have cC:(k:Int)<(aA.length:Int):=(by omega);obtain⟨b1,off,rfl,q0,q1⟩:=(Hn.out.zRJ hb).zRN rA;by_cases hg:tm<zh aA k
   ·have hd:decide (tm<zh aA k)=true:=(by simp[hg]);have Hg:=zB hg;clear hg;go_wp2
    go_quiet (fail)
    go_wp2;go_ret;exact⟨zG.no fun hA=>absurd ((zKR _ _ _ _).2 hA k rA).1 (by have:=Hg.out;omega),zg (zA eA hb) _⟩
   ·have hd:decide (tm<zh aA k)=false:=(by simp;omega);have Hg:=zB (show zh aA k<=tm by omega);clear hg;go_wp2_with fail;go_region_held3 (fun w'=>w'.cell? ⟨b1,off+k*2,none⟩=some (.int .i64 (zf aA k))/\w'.cell? ⟨b1,off+k*2+1,none⟩=some (.int .i64 (zh aA k))) (go_keep)
     (first | (go_at_call 142;refine(zDH _ bA.length 0 w4.heap.size (zf bA) (zh bA) (zf aA k) (zh aA k) _ ?_).mono ?_;(exact(Ho.out.zRJ hb).zRJ ((Below.refl _ _).drew));rintro e w6 ⟨⟨t6,rfl,aC⟩,oA⟩;have z1:=(oA.cell (p:=⟨b1,off+k*2,none⟩) (zD q0)).trans q0;have z2:=(oA.cell (p:=⟨b1,off+k*2+1,none⟩) (zD q1)).trans q1))
    have rB:=qi hb oA;have dC:=zB (aC.trans zBQ);clear aC oA z1 z2 q0 q1 hd;have gA:(t6 == decide (zh aA k<=t))=true↔((zf aA k,zh aA k)∈bA↔zh aA k<=t):=by
     have ho:=dC.out;cases t6<;>simp_all
    have mA:=zB gA;clear gA;cases hc:(t6 == decide (zh aA k<=t))
    ·go_wp2;go_ret;exact⟨zG.no fun hA=>absurd (mA.out.2 ((zKR _ _ _ _).2 hA k rA).2) (by simp[hc]),zA eA rB⟩
    ·go_wp2;go_roundw
     case rel=>exact⟨k+1,by omega,by go_num,zo rA iA.out ⟨Hg.out,mA.out.1 hc⟩,rB⟩
     case measure=>simp[intOf];omega
  ·obtain rfl:k=aA.length:=(by omega);go_wp2;go_ret;exact⟨zG.yes ((zKR _ _ _ _).1 iA.out),zA eA hb⟩
theorem zKq{l m:List (Int×Int)}{k:Nat}(hk:k<l.length)(h:(zf l k,zh l k)∈m):zAQ (l.take (k+1)) m=zAQ (l.take k) m:=by
 unfold zf zh at h;rw[yE hk]at h;unfold zAQ;rw[List.take_succ_eq_append_getElem hk,List.filter_append,List.filter_cons];simp only[List.filter_nil];rw[if_neg (by simp;exact h),List.append_nil]
theorem zIc{l m:List (Int×Int)}{k:Nat}(hk:k<l.length)(h:(zf l k,zh l k)∉m):zAQ (l.take (k+1)) m=zAQ (l.take k) m ++ [(zf l k,zh l k)]:=by
 unfold zf zh at h ⊢;rw[yE hk]at h ⊢;unfold zAQ;rw[List.take_succ_eq_append_getElem hk,List.filter_append,List.filter_cons];simp only[List.filter_nil];rw[if_pos (by simp;exact h)]
theorem zLv(l m:List (Int×Int))(k:Nat):(zAQ (l.take k) m).length<=k:=by
 unfold zAQ;exact Nat.le_trans (List.length_filter_le _ _) (by rw[List.length_take];omega)
theorem zGp(v0 v1 v2 v3 vd:Value)(lo hi kC mC dn:Nat)(ds db:Nat->Int)(W:zH)(x rs rb:Int)(dA aA:List (Int×Int))(w:World)(h:zl w lo hi v0 v1 v2 v3 W)(hD:zR w kC mC vd dn ds db)(hR:zv W.zRQ)(hT:qF W.zRQ rs rb)(hA:qF W.zRQ (zN W x).rs (zN W x).rb)(hP:zCo W)(lA:dA=zT W.zRQ rs rb)(nA:aA=zT W.zRQ (zN W x).rs (zN W x).rb) :
  Calls Tryz.prog 72 #[zz v0 v1 v2 v3 W,.int .i64 x,.agg #[.int .i64 rs,.int .i64 rb],vd] w fun e w'=>zG (zDW dn ds db (zAQ aA dA)) e/\Below w.heap.size w w':=by
 have Hp:=zB h;have HR:=zB hR;have HT:=zB hT;have HA:=zB hA;have HP:=zB hP;have iA:=zB lA;have mA:=zB nA;have HD:=zB hD;clear h hR hT hA hP lA nA hD;have ha:=zC w (.cells #[v0,v1,.int .i64 W.time,.int .i64 W.next,v2,v3] 37);have hB:=zi.zRL w v0 v1 (.int .i64 W.time) (.int .i64 W.next) v2 v3 37;have eB:=zC (w.alloc (.cells #[v0,v1,.int .i64 W.time,.int .i64 W.next,v2,v3] 37)) (.cells #[.int .i64 rs,.int .i64 rb] 61);have hX:=zc.zRL (w.alloc (.cells #[v0,v1,.int .i64 W.time,.int .i64 W.next,v2,v3] 37)) (.int .i64 rs) (.int .i64 rb) 61;have fB:=hB.zRJ eB;have aB:=zA ha eB;have cC:(w.alloc (.cells #[v0,v1,.int .i64 W.time,.int .i64 W.next,v2,v3] 37)).heap.size=w.heap.size+1:=World.size_alloc _ _;rw[cC]at hX;clear ha eB hB;go_enter Tryz.func72,Tryz.ntmps72;go_wp2_with fail;generalize ((w.alloc (.cells #[v0,v1,.int .i64 W.time,.int .i64 W.next,v2,v3] 37)).alloc (.cells #[.int .i64 rs,.int .i64 rb] 61))=W0 at hX fB aB ⊢;refine(zAl v0 v1 v2 _ lo hi W x W0 (Hp.out.zRJ aB)).mono ?_;rintro e w1 ⟨s,b,t,rfl,hF,cB⟩;have hq:=zF1 HP.out hF;have iC:=zB (show qF W.zRQ s b by rw[hq.1,hq.2.1];exact HA.out);have HF:=zB (show aA=zT W.zRQ s b by rw[mA.out,hq.1,hq.2.1]);clear hq mA HA;have bC:=hX.zRJ cB;have rB:=fB.zRJ cB;have eC:=zA aB cB;have bB:=zC w1 (.cells #[.int .i64 s,.int .i64 b] 61);have dC:=zB (zc.zRL w1 (.int .i64 s) (.int .i64 b) 61);have pB:=zB (bC.zRJ bB);have iB:=zB (rB.zRJ bB);have gA:=zA eC bB;clear hX fB aB cB cC hF bC rB eC bB;obtain⟨⟨y0,y1⟩,⟨y2,y3⟩⟩:=dC.out;obtain⟨⟨z0,z1⟩,⟨z2,z3⟩⟩:=pB.out;obtain⟨⟨x0,x1⟩,⟨x2,x3⟩,⟨x4,x5⟩,⟨x6,x7⟩,⟨x8,x9⟩,⟨oB,jB⟩⟩:=iB.out;go_wp2_with fail;generalize w1.alloc (.cells #[.int .i64 s,.int .i64 b] 61)=w3 at *;refine(yf v0 v1 lo hi W.zRQ s b w3 (Hp.out.zRQ.zRJ gA) HR.out iC.out).mono ?_;rintro e w4 ⟨vo,rfl,lC,vA⟩;have ho:=(lC.atW (by have:=qN W.zRQ s b;omega));have sB:=zB (pB.out.zRJ vA);have fC:=zB (iB.out.zRJ vA);have jA:=zA gA vA;clear lC vA pB iB dC gA x0 x1 x2 x3 x4 x5 x6 x7 x8 x9 oB jB y0 y1 y2 y3 z0 z1 z2 z3;obtain⟨⟨z0,z1⟩,⟨z2,z3⟩⟩:=sB.out;obtain⟨⟨x0,x1⟩,⟨x2,x3⟩,⟨x4,x5⟩,⟨x6,x7⟩,⟨x8,x9⟩,⟨oB,jB⟩⟩:=fC.out;go_wp2_with fail;refine(yf v0 v1 lo hi W.zRQ rs rb w4 (Hp.out.zRQ.zRJ jA) HR.out HT.out).mono ?_;rintro e w5 ⟨vn,rfl,jC,dB⟩;have hn:=(jC.atW (by have:=qN W.zRQ rs rb;omega));have tA:=ho.zRJ dB;have rA:=zA jA dB;clear jC dB sB fC jA ho x0 x1 x2 x3 x4 x5 x6 x7 x8 x9 oB jB z0 z1 z2 z3;have HL:=zB (show dA.length<=73/\aA.length<=73 by rw[iA.out,HF.out];exact⟨qN _ _ _,qN _ _ _⟩);rw[<-iA.out]at hn;rw[<-HF.out]at tA;clear HF iC HT iA HR HP;obtain⟨mo,ao,co,rfl,eD,_⟩:=id tA;have bD:aA.length<=73:=HL.out.2;have Hn:=zB hn;have Ho:=zB tA;have oC:=zB (HD.out.zRJ rA);clear hn tA HD;unfold maxLen at mo;obtain⟨i0,aC,gB⟩:=Option.map_eq_some_iff.1 zAz;simp only[Prod.mk.injEq]at gB;have HI:=zB (And.intro aC gB);clear aC gB;have gC:=zB (zC w5 (.cells #[] 61));have tB:=zB (show zw (w5.alloc (.cells #[] 61)) w5.heap.size (.slice (some ⟨w5.heap.size,0,none⟩) 0 0) [] from World.ownsRow_lit (e:=61) (size:=2) w5 #[] 0 (Nat.le_refl _) (by unfold maxLen;omega) rfl);go_wp2
 go_loopw [13,14] (fun vw i wr=>∃k:Nat,k<=aA.length/\i = .int .i64 k/\zw wr w5.heap.size vw (zAQ (aA.take k) dA)/\Below w5.heap.size w5 wr) (fun _ i _=>aA.length - (intOf i).toNat)
 case atStart=>exact⟨0,Nat.zero_le _,rfl,by rw[List.take_zero];exact tB.out,gC.out⟩
 case round=>
  obtain⟨k,hk,rfl,sA,hb⟩:=hrel;have cA:=zB sA;clear sA tB gC;by_cases kB:k<aA.length
  ·have sC:(k:Int)<(aA.length:Int):=(by omega);obtain⟨b1,off,rfl,q0,q1⟩:=(Ho.out.zRJ hb).zRN kB;go_wp2_with fail;refine(zDH _ dA.length 0 w5.heap.size (zf dA) (zh dA) (zf aA k) (zh aA k) _ (Hn.out.zRJ hb)).mono ?_;rintro e w6 ⟨⟨t6,rfl,oA⟩,fA⟩;have z0:=(fA.cell (p:=⟨b1,off+k*2,none⟩) (zD q0)).trans q0;have z1:=(fA.cell (p:=⟨b1,off+k*2+1,none⟩) (zD q1)).trans q1;have lB:=zA hb fA;have bA:=zB (cA.out.zRJ fA);have nB:=zB (oA.trans zBQ);clear oA fA q0 q1 cA;cases t6
   ·have mB:=zC w6 (.cells #[.int .i64 (zf aA k),.int .i64 (zh aA k)] 61);have eA:=zB (bA.out.zRJ mB);have vB:=zA lB mB;have fD:=lB.size;have dD:(w6.alloc (.cells #[.int .i64 (zf aA k),.int .i64 (zh aA k)] 61)).heap.size=w6.heap.size+1:=World.size_alloc _ _;have HN:=zB (World.news_of_block (heap_alloc_last w6 (.cells #[.int .i64 (zf aA k),.int .i64 (zh aA k)] 61)));have aD:=zLv aA dA k;clear mB bA;go_wp2_with (first
     |(at_builtin;refine wpList_append_lies _ rfl _ _ 62 rfl w5.heap.size 61 i0 (.agg #[.int .i64 0,.int .i64 0]) 2 16 (by kernel_rfl) HI.out.1 HI.out.2.1 HI.out.2.2.1 HI.out.2.2.2 rfl (by decide) _ _ _ rfl eA.out ⟨w6.heap.size,0,none⟩ 1 1 [.int .i64 (zf aA k),.int .i64 (zh aA k)] rfl rfl HN.out (by simp[Value.oneCell']) (by decide) (by unfold maxLen;omega) (by omega) (by omega) _ rfl ?_;intro g' rC w8 pA kA nC pC)
     |go_in)
    go_roundw
    case rel=>exact⟨k+1,by omega,by go_num,by rw[zIc kB (fun h=>absurd (nB.out.2 h) (by simp))];exact zw.next pA,vB.grown kA vB.size (fun q hq=>(eA.out.lt hq).1)⟩
    case measure=>simp[intOf];omega
   ·have Hm:=zB (nB.out.1 rfl);clear nB;go_wp2;go_roundw
    case rel=>exact⟨k+1,by omega,by go_num,by rw[zKq kB Hm.out];exact bA.out,lB⟩
    case measure=>simp[intOf];omega
  ·obtain rfl:k=aA.length:=(by omega);have hw:=cA.out;rw[List.take_length]at hw;have cD:(zAQ aA dA).length<=aA.length:=List.length_filter_le _ _;have vC:=hw.atW (by omega);clear hw cA;go_wp2_with fail;refine(zGS vd _ dn kC mC _ 0 wr.heap.size ds db _ _ wr (oC.out.zRJ hb) vC).mono ?_;rintro e w6 ⟨⟨t6,rfl,oA⟩,fA⟩;have tC:=zB oA;clear oA;go_wp2;go_ret;exact⟨⟨t6,rfl,tC.out⟩,zA rA (zA hb fA)⟩
def zCl(W:zH)(i:Nat):Prop:=zND (yU W (zO W i)) (zCp W (zO W i)) (zN W (zO W i).zRT).time (zO W i).time
theorem zBH.snap{W:zH}(h:zBH W){k:Nat}(hk:k<W.pn):qF W.zRQ (W.zRP k).rs (W.zRP k).rb:=by
 have:=h.tree k (by unfold zq;omega);rw[qT hk]at this;exact this
theorem zBH.set{W:zH}(h:zBH W){k:Nat}(hk:k<W.sn):qF W.zRQ (W.zRS k).rs (W.zRS k).rb:=by
 have:=h.tree (W.pn+k) (by unfold zq;omega);rw[yK]at this;exact this
theorem zL4{v0 v1 v2 v3:Value}{lo hi:Nat}{W:zH}{w:World}(h:zl w lo hi v0 v1 v2 v3 W)(hT:zBH W)(hP:zCo W){k:Nat}(hk:k<W.pn)(w':World)(hb:Below w.heap.size w w') :
  Calls Tryz.prog 144 #[zz v0 v1 v2 v3 W,.int .i64 (W.zRP k).zRT,.agg #[.int .i64 (W.zRP k).rs,.int .i64 (W.zRP k).rb],.int .i64 (W.zRP k).time] w' fun e aA=>zG (zCl W k) e/\Below w'.heap.size w' aA:=by
 unfold zCl;rw[qT hk];exact zE7 v0 v1 v2 v3 lo hi W _ _ _ _ _ _ _ w' (h.zRJ hb) hT.right (hT.snap hk) (hT.old _) hP rfl rfl rfl
theorem zMk{v0 v1 v2 v3:Value}{lo hi:Nat}{W:zH}{w:World}(h:zl w lo hi v0 v1 v2 v3 W)(hT:zBH W)(hP:zCo W){k:Nat}(hk:k<W.sn)(w':World)(hb:Below w.heap.size w w') :
  Calls Tryz.prog 144 #[zz v0 v1 v2 v3 W,.int .i64 (W.zRS k).zRT,.agg #[.int .i64 (W.zRS k).rs,.int .i64 (W.zRS k).rb],.int .i64 W.time] w' fun e aA=>zG (zCl W (W.pn+k)) e/\Below w'.heap.size w' aA:=by
 unfold zCl;rw[yK];exact zE7 v0 v1 v2 v3 lo hi W _ _ _ _ _ _ _ w' (h.zRJ hb) hT.right (hT.set hk) (hT.old _) hP rfl rfl rfl
theorem zLL(v0 v1 v2 v3:Value)(lo hi:Nat)(W:zH)(w:World)(h:zl w lo hi v0 v1 v2 v3 W)(hT:zBH W)(hP:zCo W) :
  Calls Tryz.prog 76 #[zz v0 v1 v2 v3 W] w fun e w'=>zG (∀i,i<zq W->zCl W i) e/\Below w.heap.size w w':=by
 have Hp:=zB h;have HT:=zB hT;have HP:=zB hP;obtain⟨m1,a,c,rfl,mc,_⟩:=id h.zRP;obtain⟨m2,a',c',rfl,lA,_⟩:=id h.zRS;unfold maxLen at m1 m2;clear h hT hP;have ha:=zC w (.cells #[v0,v1,.int .i64 W.time,.int .i64 W.next,.slice a' W.sn c',.slice a W.pn c] 37);have HB:=zB (zi.zRL w v0 v1 (.int .i64 W.time) (.int .i64 W.next) (.slice a' W.sn c') (.slice a W.pn c) 37);go_enter Tryz.func76,Tryz.ntmps76;go_wp2
 go_loopw [3] (fun i wr=>∃k:Nat,k<=W.pn/\i = .int .i64 k/\(∀j,j<k->zCl W j)/\zi wr w.heap.size v0 v1 (.int .i64 W.time) (.int .i64 W.next) (.slice a' W.sn c') (.slice a W.pn c)/\Below w.heap.size w wr) (fun i _=>W.pn - (intOf i).toNat)
 case atStart=>exact⟨0,Nat.zero_le _,rfl,fun j hj=>absurd hj (Nat.not_lt_zero _),HB.out,ha⟩
 case round=>
  obtain⟨k,hk,rfl,cA,hX,hb⟩:=hrel;have bA:=zB cA;have HX:=zB hX;clear cA hX ha HB;obtain⟨⟨x0,x1⟩,⟨x2,x3⟩,⟨x4,x5⟩,⟨x6,x7⟩,⟨x8,x9⟩,⟨kA,gA⟩⟩:=HX.out;by_cases dA:k<W.pn
  ·have jA:(k:Int)<(W.pn:Int):=(by omega);have Hc:=zB (zL4 (Hp.out.zRJ hb) HT.out HP.out dA);obtain⟨b,off,vd,rfl,hs⟩:=(Hp.out.zRP.zRJ hb).cells dA;have q3:=hs.c3;have q4:=hs.c4;have q5:=hs.c5;have q6:=hs.c6;clear hs x1 x3 x5 x7 x9 gA;go_wp2_with fail;go_region_held3 (fun w'=>w'.cell? ⟨w.heap.size,0,none⟩=some v0/\w'.cell? ⟨w.heap.size,1,none⟩=some v1/\w'.cell? ⟨w.heap.size,2,none⟩=some (.int .i64 W.time)/\w'.cell? ⟨w.heap.size,3,none⟩=some (.int .i64 W.next)/\w'.cell? ⟨w.heap.size,4,none⟩=some (.slice a' W.sn c')/\w'.cell? ⟨w.heap.size,5,none⟩=some (.slice (some ⟨b,off,none⟩) W.pn c)/\w'.cell? ⟨b,off+k*8+3,none⟩=some (.int .i64 (W.zRP k).zRT)/\w'.cell? ⟨b,off+k*8+4,none⟩=some (.int .i64 (W.zRP k).time)/\w'.cell? ⟨b,off+k*8+5,none⟩=some (.int .i64 (W.zRP k).rs)/\w'.cell? ⟨b,off+k*8+6,none⟩=some (.int .i64 (W.zRP k).rb)) (go_keep)
    (first | (go_at_call 144;refine(Hc.out _ ?_).mono ?_;(exact(Below.refl _ _).drew);rintro e w6 ⟨⟨t6,rfl,eA⟩,aA⟩;obtain⟨⟨y0,_⟩,⟨y1,_⟩,⟨y2,_⟩,⟨y3,_⟩,⟨y4,_⟩,⟨y5,_⟩⟩:=HX.out.zRJ (zK aA);have z3:=(aA.cell (p:=⟨b,off+k*8+3,none⟩) (zD q3)).trans q3;have z4:=(aA.cell (p:=⟨b,off+k*8+4,none⟩) (zD q4)).trans q4;have z5:=(aA.cell (p:=⟨b,off+k*8+5,none⟩) (zD q5)).trans q5;have z6:=(aA.cell (p:=⟨b,off+k*8+6,none⟩) (zD q6)).trans q6))
   have fA:=qi hb aA;have iA:=zB (HX.out.zRJ (zK aA));have Ht:=zB eA;clear eA aA z3 z4 z5 z6 y0 y1 y2 y3 y4 y5 q3 q4 q5 q6 HX;cases t6
   ·have Hn:=zB (show ¬zCl W k from fun hA=>absurd (Ht.out.2 hA) (by simp));clear Ht;go_wp2;go_ret;exact⟨zG.no fun hA=>Hn.out (hA k (by unfold zq;omega)),fA⟩
   ·have Hn:=zB (Ht.out.1 rfl);clear Ht;go_wp2;go_roundw
    case rel=>exact⟨k+1,by omega,by go_num,zo dA bA.out Hn.out,iA.out,fA⟩
    case measure=>simp[intOf];omega
  ·obtain rfl:k=W.pn:=(by omega);go_wp2
   go_loopw [4] (fun i wr=>∃k:Nat,k<=W.sn/\i = .int .i64 k/\(∀j,j<W.pn+k->zCl W j)/\zi wr w.heap.size v0 v1 (.int .i64 W.time) (.int .i64 W.next) (.slice a' W.sn c') (.slice a W.pn c)/\Below w.heap.size w wr) (fun i _=>W.sn - (intOf i).toNat)
   case atStart=>exact⟨0,Nat.zero_le _,rfl,bA.out,HX.out,hb⟩
   case round=>
    clear x0 x1 x2 x3 x4 x5 x6 x7 x8 x9 kA gA HX hb bA;obtain⟨k,hk,rfl,cA,hX,hb⟩:=hrel;have bA:=zB cA;have HX:=zB hX;clear cA hX;obtain⟨⟨x0,x1⟩,⟨x2,x3⟩,⟨x4,x5⟩,⟨x6,x7⟩,⟨x8,x9⟩,⟨kA,gA⟩⟩:=HX.out;by_cases dA:k<W.sn
    ·have jA:(k:Int)<(W.sn:Int):=(by omega);have Hc:=zB (zMk (Hp.out.zRJ hb) HT.out HP.out dA);obtain⟨b,off,vd,rfl,hs⟩:=(Hp.out.zRS.zRJ hb).cells dA;have q3:=hs.c2;have q5:=hs.c3;have q6:=hs.c4;clear hs x1 x3 x5 x7 x9 gA;go_wp2_with fail;go_region_held3 (fun w'=>w'.cell? ⟨w.heap.size,0,none⟩=some v0/\w'.cell? ⟨w.heap.size,1,none⟩=some v1/\w'.cell? ⟨w.heap.size,2,none⟩=some (.int .i64 W.time)/\w'.cell? ⟨w.heap.size,3,none⟩=some (.int .i64 W.next)/\w'.cell? ⟨w.heap.size,4,none⟩=some (.slice (some ⟨b,off,none⟩) W.sn c')/\w'.cell? ⟨w.heap.size,5,none⟩=some (.slice a W.pn c)/\w'.cell? ⟨b,off+k*6+2,none⟩=some (.int .i64 (W.zRS k).zRT)/\w'.cell? ⟨b,off+k*6+3,none⟩=some (.int .i64 (W.zRS k).rs)/\w'.cell? ⟨b,off+k*6+4,none⟩=some (.int .i64 (W.zRS k).rb)) (go_keep)
      (first | (go_at_call 144;refine(Hc.out _ ?_).mono ?_;(exact(Below.refl _ _).drew);rintro e w6 ⟨⟨t6,rfl,eA⟩,aA⟩;obtain⟨⟨y0,_⟩,⟨y1,_⟩,⟨y2,_⟩,⟨y3,_⟩,⟨y4,_⟩,⟨y5,_⟩⟩:=HX.out.zRJ (zK aA);have z3:=(aA.cell (p:=⟨b,off+k*6+2,none⟩) (zD q3)).trans q3;have z5:=(aA.cell (p:=⟨b,off+k*6+3,none⟩) (zD q5)).trans q5;have z6:=(aA.cell (p:=⟨b,off+k*6+4,none⟩) (zD q6)).trans q6))
     have fA:=qi hb aA;have iA:=zB (HX.out.zRJ (zK aA));have Ht:=zB eA;clear eA aA z3 z5 z6 y0 y1 y2 y3 y4 y5 q3 q5 q6 HX;cases t6
     ·have Hn:=zB (show ¬zCl W (W.pn+k)from fun hA=>absurd (Ht.out.2 hA) (by simp));clear Ht;go_wp2;go_ret;exact⟨zG.no fun hA=>Hn.out (hA _ (by unfold zq;omega)),fA⟩
     ·have Hn:=zB (Ht.out.1 rfl);clear Ht;go_wp2;go_roundw
      case rel=>
       refine⟨k+1,by omega,by go_num,fun j hj=>?_,iA.out,fA⟩;by_cases e:j=W.pn+k
       ·subst e;exact Hn.out
       ·exact bA.out j (by omega)
      case measure=>simp[intOf];omega
    ·obtain rfl:k=W.sn:=(by omega);go_wp2;go_ret;exact⟨zG.yes bA.out,hb⟩
def yX(w:World)(R n:Nat)(f:Nat->Bool):Prop:=∀i,i<n->zX w R i (.bool (f i))
theorem yX.zRJ{w w':World}{R n:Nat}{f:Nat->Bool}(h:yX w R n f)(t:Below w.heap.size w w'):yX w' R n f:=fun i hi=>(h i hi).zRJ t
theorem yX.put{w:World}{R n:Nat}{f:Nat->Bool}(h:yX w R n f){k:Nat}(c:Bool):yX (w.setCell ⟨R,k,none⟩ (.bool c)) R n (fun i=>if i=k then c else f i):=fun i hi=>by
 by_cases e:i=k
 ·subst e;show zX _ R i (.bool (if i=i then c else f i));rw[if_pos rfl];exact(h i hi).set _
 ·show zX _ R i (.bool (if i=k then c else f i));rw[if_neg e];exact(h i hi).zRK _ (Or.inr (fun h=>e h.symm))
theorem zP1(z:Value)(n:Nat){i:Nat}(hi:i<n):(madeCells #[z] n)[i]?=some z:=by
 simp[madeCells,hi,Nat.mod_one]
theorem yX.zRL(w:World)(n:Nat)(t:TypeId):yX (w.alloc (.cells (madeCells #[.bool false] n) t)) w.heap.size n (fun _=>false):=fun i hi=>by
 have hb:(w.alloc (.cells (madeCells #[Value.bool false] n) t)).heap[w.heap.size]?=some (.cells (madeCells #[.bool false] n) t):=heap_alloc_new _ _;exact zI hb (zP1 _ _ hi)
theorem zPD:(Tryz.prog.info? 4).map (fun i=>(i.zero,i.size,i.bytes))=some (some (.bool false),1,1):=by kernel_rfl
theorem zEG(n:Nat)(hn:n<=1000)(w:World):(Instr.makeSlice 123 (.int .i64 (n:Int)) (.int .i64 (n:Int))).run Tryz.prog w = .ok (.slice (some ⟨w.heap.size,0,none⟩) n n) (w.alloc (.cells (madeCells #[.bool false] n) 4)):=
 run_make_row' 123 4 (.bool false) 1 (by kernel_rfl) zPD rfl .i64 .i64 n (by omega) (by omega) w
def zFV(W:zH)(s:Nat):Prop:=∃m,m<zq W/\∃b,((s:Int),b)∈yU W (zO W m)
def zBO(W:zH)(i:Nat):Int×Int:=if i<W.sn then((W.zRS i).rs,(W.zRS i).rb)else((W.zRP (i - W.sn)).rs,(W.zRP (i - W.sn)).rb)
def zB7(W:zH)(n:Nat):List (Int×Int):=(List.range n).map (zBO W)
theorem zBi(W:zH)(n:Nat):(zB7 W n).length=n:=by simp[zB7]
theorem zGx(W:zH)(n:Nat):zB7 W (n+1)=zB7 W n ++ [zBO W n]:=by simp[zB7,List.range_succ]
theorem zEl{W:zH}{i:Nat}(h:i<W.sn):zBO W i=((W.zRS i).rs,(W.zRS i).rb):=if_pos h
theorem zDc(W:zH)(i:Nat):zBO W (W.sn+i)=((W.zRP i).rs,(W.zRP i).rb):=by
 unfold zBO;rw[if_neg (by omega),show W.sn+i - W.sn=i by omega]
theorem zNl{W:zH}{n i:Nat}(h:i<n):zf (zB7 W n) i=(zBO W i).1/\zh (zB7 W n) i=(zBO W i).2:=by
 unfold zf zh;rw[yE (by rw[zBi];exact h)];simp[zB7]
theorem zPU{W:zH}(hT:zBH W){i:Nat}(hi:i<W.sn+W.pn):qF W.zRQ (zBO W i).1 (zBO W i).2:=by
 by_cases h:i<W.sn
 ·rw[zEl h];exact hT.set h
 ·have:=zDc W (i - W.sn);rw[show W.sn+(i - W.sn)=i by omega]at this;rw[this];exact hT.snap (by omega)
theorem zM2{W:zH}{s:Nat}:zFV W s↔∃i,i<W.sn+W.pn/\∃b,((s:Int),b)∈zT W.zRQ (zBO W i).1 (zBO W i).2:=by
 unfold zFV zq yU;constructor
 ·rintro⟨m,hm,b,h⟩;by_cases hp:m<W.pn
  ·rw[qT hp]at h;exact⟨W.sn+m,by omega,b,by rw[zDc];exact h⟩
  ·have e:=yK W (m - W.pn);rw[show W.pn+(m - W.pn)=m by omega]at e;rw[e]at h;exact⟨m - W.pn,by omega,b,by rw[zEl (by omega)];exact h⟩
 ·rintro⟨i,hi,b,h⟩;by_cases hs:i<W.sn
  ·rw[zEl hs]at h;exact⟨W.pn+i,by omega,b,by rw[yK];exact h⟩
  ·have e:=zDc W (i - W.sn);rw[show W.sn+(i - W.sn)=i by omega]at e;rw[e]at h;exact⟨i - W.sn,by omega,b,by rw[qT (by omega)];exact h⟩
def zQx(W:zH)(k:Nat)(l:List (Int×Int))(j s:Nat):Prop:=(∃i,i<k/\∃b,((s:Int),b)∈zT W.zRQ (zBO W i).1 (zBO W i).2)\/∃q,q<j/\zf l q=(s:Int)
def zEA(W:zH)(k:Nat)(l:List (Int×Int))(j:Nat)(f:Nat->Bool):Prop:=∀s,f s=true↔zQx W k l j s
theorem zMK{W:zH}{k j s:Nat}{l:List (Int×Int)}{f:Nat->Bool}(h:zEA W k l j f)(hs:zf l j=(s:Int)):zEA W k l (j+1) (fun i=>if i=s then true else f i):=by
 intro i;show(if i=s then true else f i)=true↔_;by_cases e:i=s
 ·subst e;rw[if_pos rfl];exact⟨fun _=>Or.inr ⟨j,by omega,hs⟩,fun _=>rfl⟩
 ·rw[if_neg e,h i];constructor
  ·rintro(h | ⟨q,hq,h⟩)
   ·exact Or.inl h
   ·exact Or.inr ⟨q,by omega,h⟩
  ·rintro(h | ⟨q,hq,h⟩)
   ·exact Or.inl h
   ·by_cases eq:q=j
    ·subst eq;exact absurd (by omega) e
    ·exact Or.inr ⟨q,by omega,h⟩
theorem zMV{W:zH}{k:Nat}{l:List (Int×Int)}{f:Nat->Bool}(h:zEA W k l l.length f)(hl:l=zT W.zRQ (zBO W k).1 (zBO W k).2):zEA W (k+1) [] 0 f:=by
 intro s;rw[h s];constructor
 ·rintro(⟨i,hi,h⟩ | ⟨q,hq,e⟩)
  ·exact Or.inl ⟨i,by omega,h⟩
  ·refine Or.inl ⟨k,by omega,(l[q]).2,?_⟩;unfold zf at e;rw[yE hq]at e;rw[<-hl,<-e];exact List.getElem_mem hq
 ·rintro(⟨i,hi,b,h2⟩ | ⟨q,hq,e⟩)
  ·by_cases e:i=k
   ·subst e;rw[<-hl]at h2;obtain⟨q,hq,e⟩:=List.getElem_of_mem h2;exact Or.inr ⟨q,hq,by unfold zf;rw[yE hq,e]⟩
   ·exact Or.inl ⟨i,by omega,b,h2⟩
  ·omega
theorem zK2{W:zH}{k:Nat}{f:Nat->Bool}(h:zEA W k [] 0 f)(l:List (Int×Int)):zEA W k l 0 f:=by
 intro s;rw[h s];constructor
 ·rintro(h | ⟨q,hq,_⟩)
  ·exact Or.inl h
  ·omega
 ·rintro(h | ⟨q,hq,_⟩)
  ·exact Or.inl h
  ·omega
theorem zHm{p:zJ}{rs rb:Int}(hR:zv p)(hT:qF p rs rb){j:Nat}(hj:j<(zT p rs rb).length):∃s:Nat,zf (zT p rs rb) j=(s:Int)/\s<p.n:=by
 unfold zf;rw[yE hj];have:=(zAW hR hT (List.getElem_mem hj)).1;obtain⟨_,h0,h1,_⟩:=this;exact⟨((zT p rs rb)[j]).1.toNat,by omega,by omega⟩
theorem zi.grown{w w1:World}{b:Nat}{v0 v1 v2 v3 v4 v5:Value}{row:Option Nat}(h:zi w b v0 v1 v2 v3 v4 v5)(hg:w.grownBy w1 row)(aA:∀q,row=some q->b≠q):zi w1 b v0 v1 v2 v3 v4 v5:=by
 have hb:b<w.heap.size:=h.1.lt;refine h.zRR (S:=fun k=>row=some k) ⟨hg.os,hg.tape,hg.output,hg.size,fun k hk hs=>hg.block k hk (fun e=>hs e.symm)⟩ (fun e=>aA b e rfl)
theorem yX.grown{w w1:World}{R n:Nat}{f:Nat->Bool}{row:Option Nat}(h:yX w R n f)(hg:w.grownBy w1 row)(aA:∀q,row=some q->R≠q):yX w1 R n f:=fun i hi=>
 (h i hi).zRR (S:=fun k=>row=some k) ⟨hg.os,hg.tape,hg.output,hg.size,fun k hk hs=>hg.block k hk (fun e=>hs e.symm)⟩ (fun e=>aA R e rfl)
theorem zKP(v0 v1 v2 v3:Value)(lo hi:Nat)(W:zH)(w:World)(h:zl w lo hi v0 v1 v2 v3 W)(hT:zBH W)(hs:W.sn<=8)(hp:W.pn<=20) :
  Calls Tryz.prog 73 #[zz v0 v1 v2 v3 W] w fun e w'=>∃R f,e = .returned (.slice (some ⟨R,0,none⟩) W.zRQ.n W.zRQ.n)/\w.heap.size<=R/\yX w' R W.zRQ.n f/\(∀s,f s=true↔zFV W s)/\Below w.heap.size w w':=by
 have Hp:=zB h;have HT:=zB hT;obtain⟨m1,a,c,rfl,mc,_⟩:=id h.zRP;obtain⟨m2,a',c',rfl,pC,_⟩:=id h.zRS;obtain⟨m0,a0,c0,rfl,rC,_⟩:=id h.zRQ.1;unfold maxLen at m0 m1 m2;have vC:W.zRQ.n<=200:=hT.right.1;clear h hT;obtain⟨i0,rB,iB⟩:=Option.map_eq_some_iff.1 zAz;simp only[Prod.mk.injEq]at iB;have HI:=zB (And.intro rB iB);clear rB iB;have aD:=zEG W.zRQ.n (by omega);have ha:=zC w (.cells #[.slice a0 W.zRQ.n c0,v1,.int .i64 W.time,.int .i64 W.next,.slice a' W.sn c',.slice a W.pn c] 37);have mB:(w.alloc (.cells #[.slice a0 W.zRQ.n c0,v1,.int .i64 W.time,.int .i64 W.next,.slice a' W.sn c',.slice a W.pn c] 37)).heap.size=w.heap.size+1:=World.size_alloc _ _;have vB:∀W1:World,W1=w.alloc (.cells #[.slice a0 W.zRQ.n c0,v1,.int .i64 W.time,.int .i64 W.next,.slice a' W.sn c',.slice a W.pn c] 37)->zi ((W1.alloc (.cells (madeCells #[.bool false] W.zRQ.n) 4)).alloc (.cells #[] 61)) w.heap.size (.slice a0 W.zRQ.n c0) v1 (.int .i64 W.time) (.int .i64 W.next) (.slice a' W.sn c') (.slice a W.pn c)/\yX ((W1.alloc (.cells (madeCells #[.bool false] W.zRQ.n) 4)).alloc (.cells #[] 61)) (w.heap.size+1) W.zRQ.n (fun _=>false)/\zw ((W1.alloc (.cells (madeCells #[.bool false] W.zRQ.n) 4)).alloc (.cells #[] 61)) (w.heap.size+2) (.slice (some ⟨w.heap.size+1+1,0,none⟩) 0 0) []/\Below w.heap.size w ((W1.alloc (.cells (madeCells #[.bool false] W.zRQ.n) 4)).alloc (.cells #[] 61)):=by
  rintro W1 rfl;have hB:=zi.zRL w (.slice a0 W.zRQ.n c0) v1 (.int .i64 W.time) (.int .i64 W.next) (.slice a' W.sn c') (.slice a W.pn c) 37;have hR:=yX.zRL (w.alloc (.cells #[.slice a0 W.zRQ.n c0,v1,.int .i64 W.time,.int .i64 W.next,.slice a' W.sn c',.slice a W.pn c] 37)) W.zRQ.n 4;rw[mB]at hR;generalize w.alloc (.cells #[.slice a0 W.zRQ.n c0,v1,.int .i64 W.time,.int .i64 W.next,.slice a' W.sn c',.slice a W.pn c] 37)=W1 at *;have b2:=zC W1 (.cells (madeCells #[.bool false] W.zRQ.n) 4);have dB:(W1.alloc (.cells (madeCells #[.bool false] W.zRQ.n) 4)).heap.size=w.heap.size+1+1:=(by rw[World.size_alloc,mB]);have fC:=hB.zRJ b2;have lC:=zA ha b2;generalize W1.alloc (.cells (madeCells #[.bool false] W.zRQ.n) 4)=W2 at *;have b3:=zC W2 (.cells #[] 61);have l3:=World.ownsRow_lit (e:=61) (size:=2) (base:=w.heap.size+2) W2 #[] 0 (by rw[dB];omega) (by unfold maxLen;omega) rfl;rw[dB]at l3;exact⟨fC.zRJ b3,hR.zRJ b3,l3,zA lC b3⟩
 have eC:=zB (vB _ rfl);clear vB;go_enter Tryz.func73,Tryz.ntmps73;obtain⟨⟨x0,x1⟩,⟨x2,x3⟩,⟨x4,x5⟩,⟨x6,x7⟩,⟨x8,x9⟩,⟨kA,nA⟩⟩:=zi.zRL w (.slice a0 W.zRQ.n c0) v1 (.int .i64 W.time) (.int .i64 W.next) (.slice a' W.sn c') (.slice a W.pn c) 37;go_wp2;clear x0 x1 x2 x3 x4 x5 x6 x7 x8 x9 kA nA ha
 go_loopw [4,5] (fun vr i wr=>∃k:Nat,k<=W.sn/\i = .int .i64 k/\zw wr (w.heap.size+2) vr (zB7 W k)/\zi wr w.heap.size (.slice a0 W.zRQ.n c0) v1 (.int .i64 W.time) (.int .i64 W.next) (.slice a' W.sn c') (.slice a W.pn c)/\yX wr (w.heap.size+1) W.zRQ.n (fun _=>false)/\Below w.heap.size w wr) (fun _ i _=>W.sn - (intOf i).toNat)
 case atStart=>
  obtain⟨s1,s2,s3,s4⟩:=eC.out;exact⟨0,Nat.zero_le _,rfl,s3,s1,s2,s4⟩
 case round=>
  clear eC mB;obtain⟨k,hk,rfl,dA,hX,hR,hb⟩:=hrel;have aA:=zB dA;have HX:=zB hX;have eA:=zB hR;clear dA hX hR;obtain⟨⟨x0,x1⟩,⟨x2,x3⟩,⟨x4,x5⟩,⟨x6,x7⟩,⟨x8,x9⟩,⟨kA,nA⟩⟩:=HX.out;by_cases mA:k<W.sn
  ·have aB:(k:Int)<(W.sn:Int):=(by omega);obtain⟨b,off,vd,rfl,jA⟩:=(Hp.out.zRS.zRJ hb).cells mA;have q3:=jA.c3;have q4:=jA.c4;clear jA;have gA:=zC wr (.cells #[.int .i64 (W.zRS k).rs,.int .i64 (W.zRS k).rb] 61);have cA:=zB (aA.out.zRJ gA);have sA:=zB (HX.out.zRJ gA);have rA:=zB (eA.out.zRJ gA);have tA:=zA hb gA;have dB:=zD kA;have mC:=(eA.out);have iC:(wr.alloc (.cells #[.int .i64 (W.zRS k).rs,.int .i64 (W.zRS k).rb] 61)).heap.size=wr.heap.size+1:=World.size_alloc _ _;have HN:=zB (World.news_of_block (heap_alloc_last wr (.cells #[.int .i64 (W.zRS k).rs,.int .i64 (W.zRS k).rb] 61)));have oA:=zBi W k;clear gA aA HX eA mC;go_wp2_with (first
    |(at_builtin;refine wpList_append_lies _ rfl _ _ 62 rfl (w.heap.size+2) 61 i0 (.agg #[.int .i64 0,.int .i64 0]) 2 16 (by kernel_rfl) HI.out.1 HI.out.2.1 HI.out.2.2.1 HI.out.2.2.2 rfl (by decide) _ _ _ rfl cA.out ⟨wr.heap.size,0,none⟩ 1 1 [.int .i64 (W.zRS k).rs,.int .i64 (W.zRS k).rb] rfl rfl HN.out (by simp[Value.oneCell']) (by decide) (by unfold maxLen;omega) (by omega) (by omega) _ rfl ?_;intro g' jB w8 iA bA eB kB)
    |go_in)
   go_roundw
   case rel=>
    have pA:∀q,Value.ownBlock _=some q->w.heap.size+2<=q:=fun q hq=>(cA.out.lt hq).1
    refine⟨k+1,by omega,by go_num,?_,sA.out.grown bA (fun q hq=>by have:=pA q hq;omega),rA.out.grown bA (fun q hq=>by have:=pA q hq;omega),tA.grown bA tA.size (fun q hq=>by have:=pA q hq;omega)⟩;rw[zGx,zEl mA];have vA:=zw.next iA;rw[oA]at vA;exact vA
   case measure=>simp[intOf];omega
  ·obtain rfl:k=W.sn:=(by omega);go_wp2
   go_loopw [4,6] (fun vr i wr=>∃k:Nat,k<=W.pn/\i = .int .i64 k/\zw wr (w.heap.size+2) vr (zB7 W (W.sn+k))/\zi wr w.heap.size (.slice a0 W.zRQ.n c0) v1 (.int .i64 W.time) (.int .i64 W.next) (.slice a' W.sn c') (.slice a W.pn c)/\yX wr (w.heap.size+1) W.zRQ.n (fun _=>false)/\Below w.heap.size w wr) (fun _ i _=>W.pn - (intOf i).toNat)
   case atStart=>exact⟨0,Nat.zero_le _,rfl,aA.out,HX.out,eA.out,hb⟩
   case round=>
    clear x0 x1 x2 x3 x4 x5 x6 x7 x8 x9 kA nA HX hb aA eA;obtain⟨k,hk,rfl,dA,hX,hR,hb⟩:=hrel;have aA:=zB dA;have HX:=zB hX;have eA:=zB hR;clear dA hX hR;obtain⟨⟨x0,x1⟩,⟨x2,x3⟩,⟨x4,x5⟩,⟨x6,x7⟩,⟨x8,x9⟩,⟨kA,nA⟩⟩:=HX.out;by_cases mA:k<W.pn
    ·have aB:(k:Int)<(W.pn:Int):=(by omega);obtain⟨b,off,vd,rfl,jA⟩:=(Hp.out.zRP.zRJ hb).cells mA;have q3:=jA.c5;have q4:=jA.c6;clear jA;have gA:=zC wr (.cells #[.int .i64 (W.zRP k).rs,.int .i64 (W.zRP k).rb] 61);have cA:=zB (aA.out.zRJ gA);have sA:=zB (HX.out.zRJ gA);have rA:=zB (eA.out.zRJ gA);have tA:=zA hb gA;have dB:=zD kA;have iC:(wr.alloc (.cells #[.int .i64 (W.zRP k).rs,.int .i64 (W.zRP k).rb] 61)).heap.size=wr.heap.size+1:=World.size_alloc _ _;have HN:=zB (World.news_of_block (heap_alloc_last wr (.cells #[.int .i64 (W.zRP k).rs,.int .i64 (W.zRP k).rb] 61)));have oA:=zBi W (W.sn+k);clear gA aA HX eA;go_wp2_with (first
      |(at_builtin;refine wpList_append_lies _ rfl _ _ 62 rfl (w.heap.size+2) 61 i0 (.agg #[.int .i64 0,.int .i64 0]) 2 16 (by kernel_rfl) HI.out.1 HI.out.2.1 HI.out.2.2.1 HI.out.2.2.2 rfl (by decide) _ _ _ rfl cA.out ⟨wr.heap.size,0,none⟩ 1 1 [.int .i64 (W.zRP k).rs,.int .i64 (W.zRP k).rb] rfl rfl HN.out (by simp[Value.oneCell']) (by decide) (by unfold maxLen;omega) (by omega) (by omega) _ rfl ?_;intro g' jB w8 iA bA eB kB)
      |go_in)
     go_roundw
     case rel=>
      have pA:∀q,Value.ownBlock _=some q->w.heap.size+2<=q:=fun q hq=>(cA.out.lt hq).1
      refine⟨k+1,by omega,by go_num,?_,sA.out.grown bA (fun q hq=>by have:=pA q hq;omega),rA.out.grown bA (fun q hq=>by have:=pA q hq;omega),tA.grown bA tA.size (fun q hq=>by have:=pA q hq;omega)⟩;rw[show W.sn+(k+1)=W.sn+k+1 from rfl,zGx,zDc];have vA:=zw.next iA;rw[oA]at vA;exact vA
     case measure=>simp[intOf];omega
    ·obtain rfl:k=W.pn:=(by omega);go_wp2;obtain⟨ar,cr,rfl,tC⟩:=zW aA.out;rw[zBi]at *;clear x0 x1 x2 x3 x4 x5 x6 x7 x8 x9 kA nA
     go_loopw [7] (fun i wr=>∃k:Nat,∃f,k<=W.sn+W.pn/\i = .int .i64 k/\zw wr (w.heap.size+2) (.slice ar (W.sn+W.pn) cr) (zB7 W (W.sn+W.pn))/\zi wr w.heap.size (.slice a0 W.zRQ.n c0) v1 (.int .i64 W.time) (.int .i64 W.next) (.slice a' W.sn c') (.slice a W.pn c)/\yX wr (w.heap.size+1) W.zRQ.n f/\zEA W k [] 0 f/\Below w.heap.size w wr) (fun i _=>W.sn+W.pn - (intOf i).toNat)
     case atStart=>exact⟨0,fun _=>false,Nat.zero_le _,rfl,aA.out,HX.out,eA.out,fun s=>⟨fun h=>absurd h (by simp),fun h=>by rcases h with⟨i,hi,_⟩ | ⟨q,hq,_⟩<;>omega⟩,hb⟩
     case round=>
      clear HX hb aA eA;obtain⟨k,f,hk,rfl,dA,hX,hR,hm,hb⟩:=hrel;have aA:=zB dA;have HX:=zB hX;have eA:=zB hR;have Hm:=zB hm;clear dA hX hR hm;by_cases mA:k<W.sn+W.pn
      ·have aB:(k:Int)<(W.sn+W.pn:Int):=(by omega);have tB:=zPU HT.out mA;have oB:=zNl (W:=W) mA;have fA:=(aA.out.atW (by rw[zBi];omega));rw[zBi]at fA;obtain⟨b,off,rfl,q0,q1⟩:=fA.zRN mA;rw[oB.1]at q0;rw[oB.2]at q1;have gB:=zB tB;clear tB oB;generalize aC:(zBO W k).1=rs at *;generalize bC:(zBO W k).2=rb at *;have fB:=zB (And.intro aC bC);clear aC bC fA;obtain⟨⟨x0,x1⟩,⟨x2,x3⟩,⟨x4,x5⟩,⟨x6,x7⟩,⟨x8,x9⟩,⟨kA,nA⟩⟩:=HX.out;clear x1 x3 x4 x5 x6 x7 x8 x9 kA nA;go_wp2_with fail;go_region_held3 (fun w'=>w'.cell? ⟨w.heap.size,0,none⟩=some (.slice a0 W.zRQ.n c0)/\w'.cell? ⟨w.heap.size,1,none⟩=some v1/\w'.cell? ⟨b,off+k*2,none⟩=some (.int .i64 rs)/\w'.cell? ⟨b,off+k*2+1,none⟩=some (.int .i64 rb)) (go_keep)
        (first | (go_at_call 141;refine(yf _ v1 lo hi W.zRQ rs rb _ ?_ HT.out.right gB.out).mono ?_;(exact(Hp.out.zRQ.zRJ hb).zRJ (Below.refl _ _).drew);rintro e w6 ⟨vl,rfl,sB,lA⟩;obtain⟨⟨y0,_⟩,⟨y1,_⟩,_⟩:=HX.out.zRJ (zK lA);have z0:=(lA.cell (p:=⟨b,off+k*2,none⟩) (zD q0)).trans q0;have z1:=(lA.cell (p:=⟨b,off+k*2+1,none⟩) (zD q1)).trans q1))
       have bB:=qi hb lA;have sA:=zB (HX.out.zRJ (zK lA));have rA:=zB (eA.out.zRJ (zK lA));have cA:=zB (aA.out.zRJ (zK lA));have lB:0<W.zRQ.n->w.heap.size+1<wr.heap.size:=fun h0=>(eA.out 0 h0).lt
       have Hl:=zB sB;clear lA sB z0 z1 y0 y1 q0 q1 x0 x2 HX eA aA;have pB:wr.drew.heap.size=wr.heap.size:=rfl;rw[pB]at Hl;obtain⟨al,cl,rfl,oC⟩:=zW Hl.out;have bD:=qN W.zRQ rs rb;have jC:=zB (fun j (hj:j<(zT W.zRQ rs rb).length)=>zHm HT.out.right gB.out hj);have HE:=zB (show zT W.zRQ rs rb=zT W.zRQ (zBO W k).1 (zBO W k).2 by rw[fB.out.1,fB.out.2]);generalize zT W.zRQ rs rb=l at *;clear fB gB pB;go_wp2
       go_loopw [9] (fun i cB=>∃j:Nat,∃f,j<=l.length/\i = .int .i64 j/\zw cB wr.heap.size (.slice al l.length cl) l/\zw cB (w.heap.size+2) (.slice (some ⟨b,off,none⟩) (W.sn+W.pn) cr) (zB7 W (W.sn+W.pn))/\zi cB w.heap.size (.slice a0 W.zRQ.n c0) v1 (.int .i64 W.time) (.int .i64 W.next) (.slice a' W.sn c') (.slice a W.pn c)/\yX cB (w.heap.size+1) W.zRQ.n f/\zEA W k l j f/\Below w.heap.size w cB) (fun i _=>l.length - (intOf i).toNat)
       case atStart=>exact⟨0,f,Nat.zero_le _,rfl,Hl.out,cA.out,sA.out,rA.out,zK2 Hm.out l,bB⟩
       case round=>
        clear sA rA cA Hl bB Hm f;obtain⟨j,f,hj,rfl,cC,dA,hX,hR,hm,bB⟩:=hrel;have Hl:=zB cC;have aA:=zB dA;have HX:=zB hX;have eA:=zB hR;have Hm:=zB hm;clear dA hX hR hm cC;by_cases dC:j<l.length
        ·have gC:(j:Int)<(l.length:Int):=(by omega);obtain⟨b2,kC,rfl,q0,q1⟩:=(Hl.out.atW (by omega)).zRN dC;obtain⟨s,nB,jA⟩:=jC.out j dC;have sC:(s:Int)<(W.zRQ.n:Int):=(by omega);rw[nB]at q0;obtain⟨y0,y1⟩:=eA.out s jA;have nC:=zB nB;clear nB q1;go_wp2;go_roundw
         case rel=>exact⟨j+1,_,by omega,by go_num,Hl.out.put (lB (by omega)) _,aA.out.put (by omega) _,HX.out.zRR (zF.put _ (w.heap.size+1) s _) (by omega),eA.out.put true,zMK Hm.out nC.out,bB.setCell (show w.heap.size<=w.heap.size+1 by omega) _⟩
         case measure=>simp[intOf];omega
        ·obtain rfl:j=l.length:=(by omega);go_wp2;go_roundw
         case rel=>exact⟨k+1,f,by omega,by go_num,aA.out,HX.out,eA.out,zMV Hm.out HE.out,bB⟩
         case measure=>simp[intOf];omega
      ·obtain rfl:k=W.sn+W.pn:=(by omega);go_wp2;go_ret;refine⟨_,f,rfl,by omega,eA.out,fun s=>?_,hb⟩;rw[Hm.out s,zM2];constructor
       ·rintro(h | ⟨q,hq,_⟩)
        ·exact h
        ·omega
       ·exact Or.inl
def zKl(W:zH)(k:Nat):Prop:=∀i,i<k->∀j,j<i->∀x,x∈zFN W (zO W i)->∀y,y∈zFN W (zO W j)->x.1≠y.1
def zCX(W:zH)(k:Nat)(now old:List (Int×Int))(j:Nat):Prop:=∀q,q<j->(zf now q,zh now q)∉old->∀i,i<k->∀y,y∈zFN W (zO W i)->zf now q≠y.1
def zRD(W:zH)(k:Nat)(now old:List (Int×Int))(j s:Nat):Prop:=(∃i,i<k/\∃b,((s:Int),b)∈zFN W (zO W i))\/∃q,q<j/\zf now q=(s:Int)/\(zf now q,zh now q)∉old
def zBm(W:zH)(k:Nat)(now old:List (Int×Int))(j:Nat)(f:Nat->Bool):Prop:=∀s,f s=true↔zRD W k now old j s
theorem zIW{W:zH}{k:Nat}{aA bA:List (Int×Int)}(h:zKl W k)(hn:aA=yU W (zO W k))(ho:bA=zCp W (zO W k))(hr:zCX W k aA bA aA.length):zKl W (k+1):=by
 intro i hi j hj x hx y hy;by_cases e:i=k
 ·subst e;obtain⟨h1,h2⟩:=List.mem_filter.1 hx;rw[<-hn]at h1;rw[<-ho]at h2;obtain⟨q,hq,e⟩:=List.getElem_of_mem h1;have:=hr q hq;unfold zf zh at this;rw[yE hq,e]at this;exact this (by simpa using h2) j hj y hy
 ·exact h i (by omega) j hj x hx y hy
theorem zJd{W:zH}{k j:Nat}{aA bA:List (Int×Int)}{f:Nat->Bool}(h:zBm W k aA bA j f)(cA:(zf aA j,zh aA j)∈bA):zBm W k aA bA (j+1) f:=by
 intro s;rw[h s];constructor
 ·rintro(h | ⟨q,hq,h⟩)
  ·exact Or.inl h
  ·exact Or.inr ⟨q,by omega,h⟩
 ·rintro(h | ⟨q,hq,h1,h2⟩)
  ·exact Or.inl h
  ·by_cases e:q=j
   ·subst e;exact absurd cA h2
   ·exact Or.inr ⟨q,by omega,h1,h2⟩
theorem zJT{W:zH}{k j s:Nat}{aA bA:List (Int×Int)}{f:Nat->Bool}(h:zBm W k aA bA j f)(hs:zf aA j=(s:Int))(cA:(zf aA j,zh aA j)∉bA):zBm W k aA bA (j+1) (fun i=>if i=s then true else f i):=by
 intro i;show(if i=s then true else f i)=true↔_;by_cases e:i=s
 ·subst e;rw[if_pos rfl];exact⟨fun _=>Or.inr ⟨j,by omega,hs,cA⟩,fun _=>rfl⟩
 ·rw[if_neg e,h i];constructor
  ·rintro(h | ⟨q,hq,h⟩)
   ·exact Or.inl h
   ·exact Or.inr ⟨q,by omega,h⟩
  ·rintro(h | ⟨q,hq,h,h2⟩)
   ·exact Or.inl h
   ·by_cases eq:q=j
    ·subst eq;exact absurd (by omega) e
    ·exact Or.inr ⟨q,by omega,h,h2⟩
theorem zK5{W:zH}{k j:Nat}{aA bA:List (Int×Int)}(h:zCX W k aA bA j)(cA:(zf aA j,zh aA j)∈bA):zCX W k aA bA (j+1):=by
 intro q hq;by_cases e:q=j
 ·subst e;exact fun h=>absurd cA h
 ·exact h q (by omega)
theorem zLh{W:zH}{k j s:Nat}{aA bA:List (Int×Int)}{f:Nat->Bool}(h:zCX W k aA bA j)(hS:zBm W k aA bA j f)(hs:zf aA j=(s:Int))(hf:f s=false):zCX W k aA bA (j+1):=by
 intro q hq;by_cases e:q=j
 ·subst e;intro _ i hi y hy ey;have:f s=true:=(hS s).2 (Or.inl ⟨i,hi,y.2,by rw[<-hs,ey];exact hy⟩);rw[hf]at this;exact absurd this (by simp)
 ·exact h q (by omega)
theorem zJb{W:zH}{k:Nat}{aA bA:List (Int×Int)}{f:Nat->Bool}(h:zBm W k aA bA aA.length f)(hn:aA=yU W (zO W k))(ho:bA=zCp W (zO W k)):zBm W (k+1) [] [] 0 f:=by
 intro s;rw[h s];constructor
 ·rintro(⟨i,hi,h⟩ | ⟨q,hq,e,h2⟩)
  ·exact Or.inl ⟨i,by omega,h⟩
  ·refine Or.inl ⟨k,by omega,(aA[q]).2,?_⟩;unfold zf zh at h2;unfold zf at e;rw[yE hq]at e h2;refine List.mem_filter.2 ⟨?_,?_⟩
   ·rw[<-hn,<-e];exact List.getElem_mem hq
   ·rw[<-ho,<-e];simpa using h2
 ·rintro(⟨i,hi,b,h2⟩ | ⟨q,hq,_⟩)
  ·by_cases e:i=k
   ·subst e;obtain⟨h3,h4⟩:=List.mem_filter.1 h2;rw[<-hn]at h3;rw[<-ho]at h4;obtain⟨q,hq,e⟩:=List.getElem_of_mem h3;refine Or.inr ⟨q,hq,?_⟩;unfold zf zh;rw[yE hq,e];exact⟨rfl,by simpa using h4⟩
   ·exact Or.inl ⟨i,by omega,b,h2⟩
  ·omega
theorem zHU{W:zH}{k:Nat}{f:Nat->Bool}(h:zBm W k [] [] 0 f)(aA bA:List (Int×Int)):zBm W k aA bA 0 f:=by
 intro s;rw[h s];constructor
 ·rintro(h | ⟨q,hq,_⟩)
  ·exact Or.inl h
  ·omega
 ·rintro(h | ⟨q,hq,_⟩)
  ·exact Or.inl h
  ·omega
theorem zIV{W:zH}{k j s:Nat}{aA bA:List (Int×Int)}{f:Nat->Bool}(hT:zBH W)(hk:k<zq W)(hn:aA=yU W (zO W k))(ho:bA=zCp W (zO W k))(hS:zBm W k aA bA j f)(hj:j<aA.length)(hs:zf aA j=(s:Int))(dA:(zf aA j,zh aA j)∉bA)(hf:f s=true):¬zGW W:=by
 intro hA;rcases(hS s).1 hf with⟨i,hi,b,h⟩ | ⟨q,hq,e,h2⟩
 ·refine hA k hk i hi (zf aA j,zh aA j) ?_ _ h hs;refine List.mem_filter.2 ⟨?_,by rw[<-ho];simpa using dA⟩;rw[<-hn];unfold zf zh;rw[yE hj];exact List.getElem_mem hj
 ·have cA:=zBL hT.right (l:=aA) (fun x hx=>by rw[hn]at hx;exact(zAW hT.right (hT.tree k hk) hx).1) (by rw[hn];exact zAd hT.right (hT.tree k hk)) (by rw[hn];have:=qN W.zRQ (zO W k).rs (zO W k).rb;unfold yU;omega);exact cA.2.2 j hj q hq (by rw[e,hs])
theorem zKm(v0 v1 v2 v3:Value)(lo hi:Nat)(W:zH)(w:World)(h:zl w lo hi v0 v1 v2 v3 W)(hT:zBH W)(hP:zCo W)(hs:W.sn<=8)(hp:W.pn<=20) :
  Calls Tryz.prog 77 #[zz v0 v1 v2 v3 W] w fun e w'=>zG (zGW W) e/\Below w.heap.size w w':=by
 have Hp:=zB h;have HT:=zB hT;have HP:=zB hP;obtain⟨m1,a,c,rfl,mc,-⟩:=id h.zRP;obtain⟨m2,a',c',rfl,mE,-⟩:=id h.zRS;obtain⟨m0,a0,c0,rfl,oE,-⟩:=id h.zRQ.1;unfold maxLen at m0 m1 m2;have nE:W.zRQ.n<=200:=hT.right.1;clear h hT hP;have rE:=zEG W.zRQ.n (by omega);have ha:=zC w (.cells #[.slice a0 W.zRQ.n c0,v1,.int .i64 W.time,.int .i64 W.next,.slice a' W.sn c',.slice a W.pn c] 37);have pD:(w.alloc (.cells #[.slice a0 W.zRQ.n c0,v1,.int .i64 W.time,.int .i64 W.next,.slice a' W.sn c',.slice a W.pn c] 37)).heap.size=w.heap.size+1:=World.size_alloc _ _;have aE:∀W1:World,W1=w.alloc (.cells #[.slice a0 W.zRQ.n c0,v1,.int .i64 W.time,.int .i64 W.next,.slice a' W.sn c',.slice a W.pn c] 37)->zi (W1.alloc (.cells (madeCells #[.bool false] W.zRQ.n) 4)) w.heap.size (.slice a0 W.zRQ.n c0) v1 (.int .i64 W.time) (.int .i64 W.next) (.slice a' W.sn c') (.slice a W.pn c)/\yX (W1.alloc (.cells (madeCells #[.bool false] W.zRQ.n) 4)) (w.heap.size+1) W.zRQ.n (fun _=>false)/\Below w.heap.size w (W1.alloc (.cells (madeCells #[.bool false] W.zRQ.n) 4))/\w.heap.size+2<=(W1.alloc (.cells (madeCells #[.bool false] W.zRQ.n) 4)).heap.size:=by
  rintro W1 rfl;have hB:=zi.zRL w (.slice a0 W.zRQ.n c0) v1 (.int .i64 W.time) (.int .i64 W.next) (.slice a' W.sn c') (.slice a W.pn c) 37;have hR:=yX.zRL (w.alloc (.cells #[.slice a0 W.zRQ.n c0,v1,.int .i64 W.time,.int .i64 W.next,.slice a' W.sn c',.slice a W.pn c] 37)) W.zRQ.n 4;rw[pD]at hR;generalize w.alloc (.cells #[.slice a0 W.zRQ.n c0,v1,.int .i64 W.time,.int .i64 W.next,.slice a' W.sn c',.slice a W.pn c] 37)=W1 at *;have b2:=zC W1 (.cells (madeCells #[.bool false] W.zRQ.n) 4);exact⟨hB.zRJ b2,hR,zA ha b2,by rw[World.size_alloc,pD];omega⟩
 have cE:=zB (aE _ rfl);clear aE;go_enter Tryz.func77,Tryz.ntmps77;obtain⟨⟨x0,x1⟩,⟨x2,x3⟩,⟨x4,x5⟩,⟨x6,x7⟩,⟨x8,x9⟩,⟨nA,mA⟩⟩:=zi.zRL w (.slice a0 W.zRQ.n c0) v1 (.int .i64 W.time) (.int .i64 W.next) (.slice a' W.sn c') (.slice a W.pn c) 37;go_wp2;clear x0 x1 x2 x3 x4 x5 x6 x7 x8 x9 nA mA ha
 go_loopw [4] (fun i wr=>∃k:Nat,∃f,k<=W.pn+W.sn/\i = .int .i64 k/\zi wr w.heap.size (.slice a0 W.zRQ.n c0) v1 (.int .i64 W.time) (.int .i64 W.next) (.slice a' W.sn c') (.slice a W.pn c)/\yX wr (w.heap.size+1) W.zRQ.n f/\zBm W k [] [] 0 f/\zKl W k/\Below w.heap.size w wr/\w.heap.size+2<=wr.heap.size) (fun i _=>W.pn+W.sn - (intOf i).toNat)
 case atStart=>
  obtain⟨s1,s2,s3,s4⟩:=cE.out;exact⟨0,fun _=>false,Nat.zero_le _,rfl,s1,s2,fun s=>⟨fun h=>absurd h (by simp),fun h=>by rcases h with⟨i,hi,_⟩ | ⟨q,hq,_⟩<;>omega⟩,fun i hi=>absurd hi (Nat.not_lt_zero _),s3,s4⟩
 case round=>
  clear cE pD;obtain⟨k,f,hk,rfl,hX,hR,hS,hA,hb,hz⟩:=hrel;have HX:=zB hX;have eA:=zB hR;have HS:=zB hS;have HA:=zB hA;clear hX hR hS hA;obtain⟨⟨x0,x1⟩,⟨x2,x3⟩,⟨x4,x5⟩,⟨x6,x7⟩,⟨x8,x9⟩,⟨nA,mA⟩⟩:=HX.out;by_cases pE:k<W.pn+W.sn
  ·have jE:(k:Int)<(W.pn+W.sn:Int):=(by omega);by_cases bE:k<W.pn
   ·have jD:(k:Int)<(W.pn:Int):=(by omega);obtain⟨b,off,vd,rfl,eB⟩:=(Hp.out.zRP.zRJ hb).cells bE;have q3:=eB.c3;have q5:=eB.c5;have q6:=eB.c6;have Hm:=zB (show(zO W k).zRT=(W.zRP k).zRT/\(zO W k).rs=(W.zRP k).rs/\(zO W k).rb=(W.zRP k).rb from by rw[qT bE];exact⟨rfl,rfl,rfl⟩);clear eB;have cA:=zC wr (.cells #[.int .i64 0,.int .i64 0] 61);have mC:=zB (HX.out.zRJ cA);have bD:=zB (zc.zRL wr (.int .i64 0) (.int .i64 0) 61);have sD:=zB (eA.out.zRJ cA);have r3:=(cA.cell (zD q3)).trans q3;have r5:=(cA.cell (zD q5)).trans q5;have r6:=(cA.cell (zD q6)).trans q6;have tD:=zA hb cA;have vD:(wr.alloc (.cells #[.int .i64 0,.int .i64 0] 61)).heap.size=wr.heap.size+1:=World.size_alloc _ _;have iD:b<wr.heap.size:=zD q3;have aC:w.heap.size≠wr.heap.size:=(by omega);have fC:b≠wr.heap.size:=(by omega);obtain⟨⟨y0,y1⟩,⟨y2,y3⟩,⟨y4,y5⟩,⟨y6,y7⟩,⟨y8,y9⟩,⟨rD,kD⟩⟩:=mC.out;obtain⟨⟨p0,p1⟩,⟨p2,p3⟩⟩:=bD.out;generalize lC:(W.zRP k).zRT=x at *;generalize pA:(W.zRP k).rs=rs at *;generalize tA:(W.zRP k).rb=rb at *;have fD:=zB (And.intro lC (And.intro pA tA));clear lC pA tA;have dB:=zC wr (.cells #[.int .i64 rs,.int .i64 rb] 61);have gB:=zB (HX.out.zRJ dB);have bC:=zB (zc.zRL wr (.int .i64 rs) (.int .i64 rb) 61);have tB:=zB (eA.out.zRJ dB);have fB:=zA hb dB;obtain⟨⟨z0,z1⟩,⟨z2,z3⟩,⟨z4,z5⟩,⟨z6,z7⟩,⟨z8,z9⟩,⟨nD,oD⟩⟩:=gB.out;go_wp2_with fail;clear x0 x1 x2 x3 x4 x5 x6 x7 x8 x9 nA mA y0 y1 y2 y3 y4 y5 y6 y7 y8 y9 rD kD z0 z1 z2 z3 z4 z5 z6 z7 z8 z9 nD oD p0 p1 p2 p3 r3 r5 r6 q3 q5 q6 mC bD sD tD cA vD aC fC iD dB;have cD:w.heap.size+2<=(wr.alloc (.cells #[.int .i64 rs,.int .i64 rb] 61)).heap.size:=(by rw[World.size_alloc];omega);generalize wr.alloc (.cells #[.int .i64 rs,.int .i64 rb] 61)=W3 at gB bC tB fB cD ⊢;refine(zAl _ v1 _ _ lo hi W x W3 (Hp.out.zRJ fB)).mono ?_;rintro e w1 ⟨s,bb,t,rfl,hF,jA⟩;have hq:=zF1 HP.out hF;have kC:=zB (show qF W.zRQ s bb by rw[hq.1,hq.2.1];exact HT.out.old x);have gC:=zB (show qF W.zRQ rs rb by have:=HT.out.tree k (by unfold zq;omega);rw[Hm.out.2.1,Hm.out.2.2]at this;exact this);have HE:=zB (show zT W.zRQ rs rb=yU W (zO W k)/\zT W.zRQ s bb=zCp W (zO W k)by unfold yU zCp;rw[Hm.out.1,Hm.out.2.1,Hm.out.2.2,hq.1,hq.2.1];exact⟨rfl,rfl⟩);have lA:=zC w1 (.cells #[.int .i64 s,.int .i64 bb] 61);have cB:=zB ((gB.out.zRJ jA).zRJ lA);have pB:=zB ((bC.out.zRJ jA).zRJ lA);have sB:=zB ((tB.out.zRJ jA).zRJ lA);have nB:=zB (zc.zRL w1 (.int .i64 s) (.int .i64 bb) 61);have iB:=zA (zA fB jA) lA;have vB:w.heap.size+2<=(w1.alloc (.cells #[.int .i64 s,.int .i64 bb] 61)).heap.size:=(by have h1:=jA.size;have h2:=lA.size;omega);clear hq hF jA lA gB bC tB fB cD fD Hm;obtain⟨⟨x0,x1⟩,⟨x2,x3⟩,⟨x4,x5⟩,⟨x6,x7⟩,⟨x8,x9⟩,⟨nA,mA⟩⟩:=cB.out;obtain⟨⟨p0,p1⟩,⟨p2,p3⟩⟩:=nB.out;clear x4 x5 x6 x7 x8 x9 nA mA x1 x3 p1 p3;go_wp2_with fail;clear x0 x2 p0 p2;generalize w1.alloc (.cells #[.int .i64 s,.int .i64 bb] 61)=w4 at cB pB sB nB iB vB ⊢;refine(yf _ v1 lo hi W.zRQ s bb w4 (Hp.out.zRQ.zRJ iB) HT.out.right kC.out).mono ?_;rintro e w5 ⟨vo,rfl,sA,gA⟩;have lB:=zB (cB.out.zRJ gA);have vC:=zB (pB.out.zRJ gA);have jC:=zB (sB.out.zRJ gA);have iA:=zB (sA.mono vB);have rB:=zA iB gA;have sC:w.heap.size+2<=w5.heap.size:=(by have h1:=gA.size;omega);clear sA gA cB pB sB nB iB vB kC;obtain⟨⟨x0,x1⟩,⟨x2,x3⟩,⟨x4,x5⟩,⟨x6,x7⟩,⟨x8,x9⟩,⟨nA,mA⟩⟩:=lB.out;obtain⟨⟨p0,p1⟩,⟨p2,p3⟩⟩:=vC.out;clear x4 x5 x6 x7 x8 x9 nA mA x1 x3 p1 p3;go_wp2_with fail;clear x0 x2 p0 p2;refine(yf _ v1 lo hi W.zRQ rs rb w5 (Hp.out.zRQ.zRJ rB) HT.out.right gC.out).mono ?_;rintro e w6 ⟨vn,rfl,vA,fA⟩;have pC:=zB (lB.out.zRJ fA);have rC:=zB (jC.out.zRJ fA);have aB:=zB (iA.out.zRJ fA);have dA:=zB (vA.mono sC);have oC:=zA rB fA;have tC:w.heap.size+2<=w6.heap.size:=(by have h1:=fA.size;omega);have gD:=zB (fun j (hj:j<(zT W.zRQ rs rb).length)=>zHm HT.out.right gC.out hj);have kE:=qN W.zRQ rs rb;have gE:=qN W.zRQ s bb;clear vA fA lB vC jC iA rB sC gC;obtain⟨an,cn,rfl,lE⟩:=zW dA.out;generalize zT W.zRQ rs rb=now at *;generalize zT W.zRQ s bb=old at *;go_wp2
    go_loopw [11] (fun i kA=>∃j:Nat,∃f,j<=now.length/\i = .int .i64 j/\zw kA (w.heap.size+2) vo old/\zw kA (w.heap.size+2) (.slice an now.length cn) now/\zi kA w.heap.size (.slice a0 W.zRQ.n c0) v1 (.int .i64 W.time) (.int .i64 W.next) (.slice a' W.sn c') (.slice (some ⟨b,off,none⟩) W.pn c)/\yX kA (w.heap.size+1) W.zRQ.n f/\zBm W k now old j f/\zCX W k now old j/\Below w.heap.size w kA/\w.heap.size+2<=kA.heap.size) (fun i _=>now.length - (intOf i).toNat)
    case atStart=>exact⟨0,f,Nat.zero_le _,rfl,aB.out,dA.out,pC.out,rC.out,zHU HS.out _ _,fun q hq=>absurd hq (Nat.not_lt_zero _),oC,tC⟩
    case round=>
     clear pC rC aB dA oC tC HS HX eA hb hz;obtain⟨j,f,hj,rfl,sA,vA,hX,hR,hS,dD,hb,hz⟩:=hrel;have iA:=zB sA;have mB:=zB vA;have HX:=zB hX;have eA:=zB hR;have HS:=zB hS;have eC:=zB dD;clear sA vA hX hR hS dD;by_cases cC:j<now.length
     ·have lD:(j:Int)<(now.length:Int):=(by omega);obtain⟨b2,iC,rfl,q0,q1⟩:=(mB.out.atW (by omega)).zRN cC;obtain⟨sl,eD,mD⟩:=gD.out j cC;have eE:(sl:Int)<(W.zRQ.n:Int):=(by omega);have kB:=zB eD;clear eD;go_wp2_with fail;refine(zDH _ old.length 0 _ (zf old) (zh old) (zf now j) (zh now j) _ (iA.out.atW (by omega))).mono ?_;rintro e w7 ⟨⟨t7,rfl,nC⟩,aA⟩;have jB:=zB (nC.trans zBQ);have z0:=(aA.cell (p:=⟨b2,iC+j*2,none⟩) (zD q0)).trans q0;have oA:=zB (iA.out.zRJ aA);have bB:=zB (mB.out.zRJ aA);have aD:=zB (HX.out.zRJ aA);have oB:=zB (eA.out.zRJ aA);have bA:=zA hb aA;have rA:w.heap.size+2<=w7.heap.size:=(by have h1:=aA.size;omega);clear nC aA q0 q1 iA mB HX eA hb hz;cases t7
      ·have Hn:=zB (show(zf now j,zh now j)∉old from fun h=>absurd (jB.out.2 h) (by simp));clear jB;rw[kB.out]at z0;obtain⟨y0,y1⟩:=oB.out sl mD;cases hfs:f sl
       ·have dC:=zB hfs;rw[hfs]at y0;clear hfs;go_wp2;go_roundw
        case rel=>exact⟨j+1,_,by omega,by go_num,oA.out.put (by omega) _,bB.out.put (by omega) _,aD.out.zRR (zF.put _ (w.heap.size+1) sl _) (by omega),oB.out.put true,zJT HS.out kB.out Hn.out,zLh eC.out HS.out kB.out dC.out,bA.setCell (show w.heap.size<=w.heap.size+1 by omega) _,by rw[World.size_setCell];exact rA⟩
        case measure=>simp[intOf];omega
       ·have dC:=zB hfs;rw[hfs]at y0;clear hfs;go_wp2;go_ret;exact⟨zG.no (zIV HT.out (by unfold zq;omega) HE.out.1 HE.out.2 HS.out cC kB.out Hn.out dC.out),bA⟩
      ·have Hn:=zB (jB.out.1 rfl);clear jB;go_wp2;go_roundw
       case rel=>exact⟨j+1,f,by omega,by go_num,oA.out,bB.out,aD.out,oB.out,zJd HS.out Hn.out,zK5 eC.out Hn.out,bA,rA⟩
       case measure=>simp[intOf];omega
     ·obtain rfl:j=now.length:=(by omega);go_wp2;go_roundw
      case rel=>exact⟨k+1,f,by omega,by go_num,HX.out,eA.out,zJb HS.out HE.out.1 HE.out.2,zIW HA.out HE.out.1 HE.out.2 eC.out,hb,hz⟩
      case measure=>simp[intOf];omega
   ·have jD:¬(k:Int)<(W.pn:Int):=(by omega);have dE:k - W.pn<W.sn:=(by omega);have fE:(k:Int) - (W.pn:Int)=((k - W.pn:Nat):Int):=(Int.ofNat_sub (by omega)).symm;have iE:((k - W.pn:Nat):Int)<(W.sn:Int):=Int.ofNat_lt.2 dE;obtain⟨b,off,vd,rfl,eB⟩:=(Hp.out.zRS.zRJ hb).cells dE;have q3:=eB.c2;have q5:=eB.c3;have q6:=eB.c4;have Hm:=zB (show(zO W k).zRT=(W.zRS (k - W.pn)).zRT/\(zO W k).rs=(W.zRS (k - W.pn)).rs/\(zO W k).rb=(W.zRS (k - W.pn)).rb from by have e:=yK W (k - W.pn);rw[show W.pn+(k - W.pn)=k by omega]at e;rw[e];exact⟨rfl,rfl,rfl⟩);clear eB;have cA:=zC wr (.cells #[.int .i64 0,.int .i64 0] 61);have mC:=zB (HX.out.zRJ cA);have bD:=zB (zc.zRL wr (.int .i64 0) (.int .i64 0) 61);have sD:=zB (eA.out.zRJ cA);have r3:=(cA.cell (zD q3)).trans q3;have r5:=(cA.cell (zD q5)).trans q5;have r6:=(cA.cell (zD q6)).trans q6;have tD:=zA hb cA;have vD:(wr.alloc (.cells #[.int .i64 0,.int .i64 0] 61)).heap.size=wr.heap.size+1:=World.size_alloc _ _;have iD:b<wr.heap.size:=zD q3;have aC:w.heap.size≠wr.heap.size:=(by omega);have fC:b≠wr.heap.size:=(by omega);obtain⟨⟨y0,y1⟩,⟨y2,y3⟩,⟨y4,y5⟩,⟨y6,y7⟩,⟨y8,y9⟩,⟨rD,kD⟩⟩:=mC.out;obtain⟨⟨p0,p1⟩,⟨p2,p3⟩⟩:=bD.out;generalize lC:(W.zRS (k - W.pn)).zRT=x at *;generalize pA:(W.zRS (k - W.pn)).rs=rs at *;generalize tA:(W.zRS (k - W.pn)).rb=rb at *;have fD:=zB (And.intro lC (And.intro pA tA));clear lC pA tA;have dB:=zC wr (.cells #[.int .i64 rs,.int .i64 rb] 61);have gB:=zB (HX.out.zRJ dB);have bC:=zB (zc.zRL wr (.int .i64 rs) (.int .i64 rb) 61);have tB:=zB (eA.out.zRJ dB);have fB:=zA hb dB;obtain⟨⟨z0,z1⟩,⟨z2,z3⟩,⟨z4,z5⟩,⟨z6,z7⟩,⟨z8,z9⟩,⟨nD,oD⟩⟩:=gB.out;go_wp2_with fail;clear x0 x1 x2 x3 x4 x5 x6 x7 x8 x9 nA mA y0 y1 y2 y3 y4 y5 y6 y7 y8 y9 rD kD z0 z1 z2 z3 z4 z5 z6 z7 z8 z9 nD oD p0 p1 p2 p3 r3 r5 r6 q3 q5 q6 mC bD sD tD cA vD aC fC iD dB;have cD:w.heap.size+2<=(wr.alloc (.cells #[.int .i64 rs,.int .i64 rb] 61)).heap.size:=(by rw[World.size_alloc];omega);generalize wr.alloc (.cells #[.int .i64 rs,.int .i64 rb] 61)=W3 at gB bC tB fB cD ⊢;refine(zAl _ v1 _ _ lo hi W x W3 (Hp.out.zRJ fB)).mono ?_;rintro e w1 ⟨s,bb,t,rfl,hF,jA⟩;have hq:=zF1 HP.out hF;have kC:=zB (show qF W.zRQ s bb by rw[hq.1,hq.2.1];exact HT.out.old x);have gC:=zB (show qF W.zRQ rs rb by have:=HT.out.tree k (by unfold zq;omega);rw[Hm.out.2.1,Hm.out.2.2]at this;exact this);have HE:=zB (show zT W.zRQ rs rb=yU W (zO W k)/\zT W.zRQ s bb=zCp W (zO W k)by unfold yU zCp;rw[Hm.out.1,Hm.out.2.1,Hm.out.2.2,hq.1,hq.2.1];exact⟨rfl,rfl⟩);have lA:=zC w1 (.cells #[.int .i64 s,.int .i64 bb] 61);have cB:=zB ((gB.out.zRJ jA).zRJ lA);have pB:=zB ((bC.out.zRJ jA).zRJ lA);have sB:=zB ((tB.out.zRJ jA).zRJ lA);have nB:=zB (zc.zRL w1 (.int .i64 s) (.int .i64 bb) 61);have iB:=zA (zA fB jA) lA;have vB:w.heap.size+2<=(w1.alloc (.cells #[.int .i64 s,.int .i64 bb] 61)).heap.size:=(by have h1:=jA.size;have h2:=lA.size;omega);clear hq hF jA lA gB bC tB fB cD fD Hm;obtain⟨⟨x0,x1⟩,⟨x2,x3⟩,⟨x4,x5⟩,⟨x6,x7⟩,⟨x8,x9⟩,⟨nA,mA⟩⟩:=cB.out;obtain⟨⟨p0,p1⟩,⟨p2,p3⟩⟩:=nB.out;clear x4 x5 x6 x7 x8 x9 nA mA x1 x3 p1 p3;go_wp2_with fail;clear x0 x2 p0 p2;generalize w1.alloc (.cells #[.int .i64 s,.int .i64 bb] 61)=w4 at cB pB sB nB iB vB ⊢;refine(yf _ v1 lo hi W.zRQ s bb w4 (Hp.out.zRQ.zRJ iB) HT.out.right kC.out).mono ?_;rintro e w5 ⟨vo,rfl,sA,gA⟩;have lB:=zB (cB.out.zRJ gA);have vC:=zB (pB.out.zRJ gA);have jC:=zB (sB.out.zRJ gA);have iA:=zB (sA.mono vB);have rB:=zA iB gA;have sC:w.heap.size+2<=w5.heap.size:=(by have h1:=gA.size;omega);clear sA gA cB pB sB nB iB vB kC;obtain⟨⟨x0,x1⟩,⟨x2,x3⟩,⟨x4,x5⟩,⟨x6,x7⟩,⟨x8,x9⟩,⟨nA,mA⟩⟩:=lB.out;obtain⟨⟨p0,p1⟩,⟨p2,p3⟩⟩:=vC.out;clear x4 x5 x6 x7 x8 x9 nA mA x1 x3 p1 p3;go_wp2_with fail;clear x0 x2 p0 p2;refine(yf _ v1 lo hi W.zRQ rs rb w5 (Hp.out.zRQ.zRJ rB) HT.out.right gC.out).mono ?_;rintro e w6 ⟨vn,rfl,vA,fA⟩;have pC:=zB (lB.out.zRJ fA);have rC:=zB (jC.out.zRJ fA);have aB:=zB (iA.out.zRJ fA);have dA:=zB (vA.mono sC);have oC:=zA rB fA;have tC:w.heap.size+2<=w6.heap.size:=(by have h1:=fA.size;omega);have gD:=zB (fun j (hj:j<(zT W.zRQ rs rb).length)=>zHm HT.out.right gC.out hj);have kE:=qN W.zRQ rs rb;have gE:=qN W.zRQ s bb;clear vA fA lB vC jC iA rB sC gC;obtain⟨an,cn,rfl,lE⟩:=zW dA.out;generalize zT W.zRQ rs rb=now at *;generalize zT W.zRQ s bb=old at *;go_wp2
    go_loopw [11] (fun i kA=>∃j:Nat,∃f,j<=now.length/\i = .int .i64 j/\zw kA (w.heap.size+2) vo old/\zw kA (w.heap.size+2) (.slice an now.length cn) now/\zi kA w.heap.size (.slice a0 W.zRQ.n c0) v1 (.int .i64 W.time) (.int .i64 W.next) (.slice (some ⟨b,off,none⟩) W.sn c') (.slice a W.pn c)/\yX kA (w.heap.size+1) W.zRQ.n f/\zBm W k now old j f/\zCX W k now old j/\Below w.heap.size w kA/\w.heap.size+2<=kA.heap.size) (fun i _=>now.length - (intOf i).toNat)
    case atStart=>exact⟨0,f,Nat.zero_le _,rfl,aB.out,dA.out,pC.out,rC.out,zHU HS.out _ _,fun q hq=>absurd hq (Nat.not_lt_zero _),oC,tC⟩
    case round=>
     clear pC rC aB dA oC tC HS HX eA hb hz;obtain⟨j,f,hj,rfl,sA,vA,hX,hR,hS,dD,hb,hz⟩:=hrel;have iA:=zB sA;have mB:=zB vA;have HX:=zB hX;have eA:=zB hR;have HS:=zB hS;have eC:=zB dD;clear sA vA hX hR hS dD;by_cases cC:j<now.length
     ·have lD:(j:Int)<(now.length:Int):=(by omega);obtain⟨b2,iC,rfl,q0,q1⟩:=(mB.out.atW (by omega)).zRN cC;obtain⟨sl,eD,mD⟩:=gD.out j cC;have eE:(sl:Int)<(W.zRQ.n:Int):=(by omega);have kB:=zB eD;clear eD;go_wp2_with fail;refine(zDH _ old.length 0 _ (zf old) (zh old) (zf now j) (zh now j) _ (iA.out.atW (by omega))).mono ?_;rintro e w7 ⟨⟨t7,rfl,nC⟩,aA⟩;have jB:=zB (nC.trans zBQ);have z0:=(aA.cell (p:=⟨b2,iC+j*2,none⟩) (zD q0)).trans q0;have oA:=zB (iA.out.zRJ aA);have bB:=zB (mB.out.zRJ aA);have aD:=zB (HX.out.zRJ aA);have oB:=zB (eA.out.zRJ aA);have bA:=zA hb aA;have rA:w.heap.size+2<=w7.heap.size:=(by have h1:=aA.size;omega);clear nC aA q0 q1 iA mB HX eA hb hz;cases t7
      ·have Hn:=zB (show(zf now j,zh now j)∉old from fun h=>absurd (jB.out.2 h) (by simp));clear jB;rw[kB.out]at z0;obtain⟨y0,y1⟩:=oB.out sl mD;cases hfs:f sl
       ·have dC:=zB hfs;rw[hfs]at y0;clear hfs;go_wp2;go_roundw
        case rel=>exact⟨j+1,_,by omega,by go_num,oA.out.put (by omega) _,bB.out.put (by omega) _,aD.out.zRR (zF.put _ (w.heap.size+1) sl _) (by omega),oB.out.put true,zJT HS.out kB.out Hn.out,zLh eC.out HS.out kB.out dC.out,bA.setCell (show w.heap.size<=w.heap.size+1 by omega) _,by rw[World.size_setCell];exact rA⟩
        case measure=>simp[intOf];omega
       ·have dC:=zB hfs;rw[hfs]at y0;clear hfs;go_wp2;go_ret;exact⟨zG.no (zIV HT.out (by unfold zq;omega) HE.out.1 HE.out.2 HS.out cC kB.out Hn.out dC.out),bA⟩
      ·have Hn:=zB (jB.out.1 rfl);clear jB;go_wp2;go_roundw
       case rel=>exact⟨j+1,f,by omega,by go_num,oA.out,bB.out,aD.out,oB.out,zJd HS.out Hn.out,zK5 eC.out Hn.out,bA,rA⟩
       case measure=>simp[intOf];omega
     ·obtain rfl:j=now.length:=(by omega);go_wp2;go_roundw
      case rel=>exact⟨k+1,f,by omega,by go_num,HX.out,eA.out,zJb HS.out HE.out.1 HE.out.2,zIW HA.out HE.out.1 HE.out.2 eC.out,hb,hz⟩
      case measure=>simp[intOf];omega
  ·obtain rfl:k=W.pn+W.sn:=(by omega);go_wp2;go_ret;exact⟨zG.yes HA.out,hb⟩
def qs(W:zH)(x:Int):Prop:=∃k,k<W.pn/\(W.zRP k).id=x
def zAR(W:zH)(x:ByteArray):Prop:=∃k,k<W.sn/\(W.zRS k).name=x
def zEv(W:zH)(i:Nat):Prop:=yM (W.zRS i).name/\(0<i->zDD (W.zRS (i - 1)).name (W.zRS i).name)/\((W.zRS i).zRT≠0->qs W (W.zRS i).zRT)/\((W.zRS i).origin≠0->qs W (W.zRS i).origin)
def zGr(W:zH)(i:Nat):Prop:=1<=(W.zRP i).id/\(W.zRP i).id<W.next/\1<=(W.zRP i).time/\(W.zRP i).time<W.time/\yM (W.zRP i).name/\zAR W (W.zRP i).set
def zFb(W:zH)(i:Nat):Prop:=(0<i->(W.zRP (i - 1)).id<(W.zRP i).id/\(W.zRP (i - 1)).time<(W.zRP i).time)/\((W.zRP i).zRT≠0->(W.zRP i).zRT<(W.zRP i).id/\qs W (W.zRP i).zRT)
def zPV(W:zH)(i j:Nat):Prop:=∀k,k<j->¬((W.zRP k).set=(W.zRP i).set/\(W.zRP k).name=(W.zRP i).name)
def zPI(W:zH)(i:Nat):Prop:=zGr W i/\zFb W i/\zPV W i i
def zBI(W:zH):Prop:=zBs W.time 1 900000/\zBs W.next 1 900000/\W.sn<=8/\W.pn<=20/\(∀i,i<W.sn->zEv W i)/\∀i,i<W.pn->zPI W i
theorem qh{W:zH}{x r:Int}(h:zF6 W.pn (fun k=>(W.zRP k).id=x) r):(qs W x/\0<=r/\r<W.pn/\(W.zRP r.toNat).id=x)\/(¬qs W x/\r = -1):=by
 rcases h with⟨k,hk,e,_,rfl⟩ | ⟨hn,rfl⟩
 ·exact Or.inl ⟨⟨k,hk,e⟩,by omega,by omega,by simpa using e⟩
 ·exact Or.inr ⟨fun ⟨k,hk,e⟩=>hn k hk e,rfl⟩
theorem zN9{W:zH}{x:ByteArray}{r:Int}(h:zF6 W.sn (fun k=>(W.zRS k).name=x) r):(zAR W x/\0<=r)\/(¬zAR W x/\r = -1):=by
 rcases h with⟨k,hk,e,_,rfl⟩ | ⟨hn,rfl⟩
 ·exact Or.inl ⟨⟨k,hk,e⟩,by omega⟩
 ·exact Or.inr ⟨fun ⟨k,hk,e⟩=>hn k hk e,rfl⟩
def zCF(w:World)(b:Nat)(v0 v1 v2 v3 v4 v5 v6 v7:Value):Prop:=(zX w b 0 v0/\zX w b 1 v1/\zX w b 2 v2/\zX w b 3 v3)/\(zX w b 4 v4/\zX w b 5 v5/\zX w b 6 v6/\zX w b 7 v7)
theorem zCF.zRJ{w w':World}{b:Nat}{v0 v1 v2 v3 v4 v5 v6 v7:Value}(h:zCF w b v0 v1 v2 v3 v4 v5 v6 v7)(t:Below w.heap.size w w'):zCF w' b v0 v1 v2 v3 v4 v5 v6 v7:=
 ⟨⟨h.1.1.zRJ t,h.1.2.1.zRJ t,h.1.2.2.1.zRJ t,h.1.2.2.2.zRJ t⟩,h.2.1.zRJ t,h.2.2.1.zRJ t,h.2.2.2.1.zRJ t,h.2.2.2.2.zRJ t⟩
theorem zCF.zRL(w:World)(v0 v1 v2 v3 v4 v5 v6 v7:Value)(t:TypeId):zCF (w.alloc (.cells #[v0,v1,v2,v3,v4,v5,v6,v7] t)) w.heap.size v0 v1 v2 v3 v4 v5 v6 v7:=by
 have hb:(w.alloc (.cells #[v0,v1,v2,v3,v4,v5,v6,v7] t)).heap[w.heap.size]?=some (.cells #[v0,v1,v2,v3,v4,v5,v6,v7] t):=heap_alloc_new _ _;exact⟨⟨zI hb rfl,zI hb rfl,zI hb rfl,zI hb rfl⟩,zI hb rfl,zI hb rfl,zI hb rfl,zI hb rfl⟩
end Go.Proofs.YtmgeglgboadfiaaGreatDoor
