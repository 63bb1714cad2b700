/- What spec.l04BornIn answers. -/
import Derived.Test.YtmgeglgboadfiaaGreatDoorT5
set_option linter.unusedVariables false
set_option maxRecDepth 20000
set_option maxHeartbeats 4000000
namespace Go.Proofs.YtmgeglgboadfiaaGreatDoor
open Go.RowKit Go.Maps
theorem zw.atW{w:World}{base:Nat}{v:Value}{l:List (Int×Int)}(h:zw w base v l)(hm:l.length<=1000):zU w 0 w.heap.size v l.length (zf l) (zh l):=by
 obtain⟨b,h1,h2⟩:=h.own (by unfold maxLen;omega);exact h1.at (fun h0=>⟨Nat.zero_le _,(h2 h0).2.2⟩)
def zQV(now old:List (Int×Int))(t tm:Int)(n:Nat):Prop:=∀i,i<n->zh now i<=tm/\((zf now i,zh now i)∈old↔zh now i<=t)
theorem zKz(aA bA:List (Int×Int))(t tm:Int):zQV aA bA t tm aA.length↔zNO aA bA t tm:=by
 constructor
 ·intro h x hx;obtain⟨j,hj,e⟩:=List.getElem_of_mem hx;have:=h j hj;unfold zf zh at this;rw[yE hj,e]at this;exact this
 ·intro h i hi;have:=h _ (List.getElem_mem hi);unfold zf zh;rw[yE hi];exact this
def zCc(W:zH):Prop:=∀k,k<W.pn->1<=(W.zRP k).id
def zJt(W:zH)(x s b t:Int):Prop:=s=(zN W x).rs/\b=(zN W x).rb/\t=(zN W x).time
theorem zFb{W:zH}{x s b t:Int}(hp:zCc W)(h:zKI W x s b t):zJt W x s b t:=by
 rcases h with⟨k,_,hk,h1,h2,h3⟩ | ⟨hn,h1,h2,h3⟩
 ·unfold zJt;rw[yA hk];exact⟨h1,h2,h3⟩
 ·have e:zN W x=yP:=by
   rcases hn with rfl | hn
   ·exact zFG (fun k hk e=>by have:=hp k hk;omega)
   ·exact zFG hn
  unfold zJt;rw[e];exact⟨h1,h2,h3⟩
theorem zEx(v0 v1 v2 v3:Value)(lo hi:Nat)(W:zH)(x rs rb tm t:Int)(aA bA:List (Int×Int))(w:World)(h:zl w lo hi v0 v1 v2 v3 W)(hR:zv W.zRQ)(hT:qG W.zRQ rs rb)(hA:qG W.zRQ (zN W x).rs (zN W x).rb)(hP:zCc W)(gA:aA=zR W.zRQ rs rb)(jA:bA=zR W.zRQ (zN W x).rs (zN W x).rb)(ht:t=(zN W x).time) :
  Calls Tryz.prog 144 #[zz v0 v1 v2 v3 W,.int .i64 x,.agg #[.int .i64 rs,.int .i64 rb],.int .i64 tm] w fun e w'=>zG (zNO aA bA t tm) e/\Below w.heap.size w w':=by
 have Hp:=zB h;have HR:=zB hR;have HT:=zB hT;have HA:=zB hA;have HP:=zB hP;have fA:=zB gA;have mA:=zB jA;have sB:=zB ht;clear h hR hT hA hP gA jA ht;have ha:=zC w (.cells #[v0,v1,.int .i64 W.time,.int .i64 W.next,v2,v3] 37);have hB:=zi.zRL w v0 v1 (.int .i64 W.time) (.int .i64 W.next) v2 v3 37;have cB:=zC (w.alloc (.cells #[v0,v1,.int .i64 W.time,.int .i64 W.next,v2,v3] 37)) (.cells #[.int .i64 rs,.int .i64 rb] 61);have hX:=zc.zRL (w.alloc (.cells #[v0,v1,.int .i64 W.time,.int .i64 W.next,v2,v3] 37)) (.int .i64 rs) (.int .i64 rb) 61;have fB:=hB.zRJ cB;have sA:=zA ha cB;have vB:(w.alloc (.cells #[v0,v1,.int .i64 W.time,.int .i64 W.next,v2,v3] 37)).heap.size=w.heap.size+1:=World.size_alloc _ _;rw[vB]at hX;clear ha cB hB;go_enter Tryz.func144,Tryz.ntmps144;go_wp2_with fail;generalize ((w.alloc (.cells #[v0,v1,.int .i64 W.time,.int .i64 W.next,v2,v3] 37)).alloc (.cells #[.int .i64 rs,.int .i64 rb] 61))=W0 at hX fB sA ⊢;refine(zAj v0 v1 v2 _ lo hi W x W0 (Hp.out.zRJ sA)).mono ?_;rintro e w1 ⟨s,b,t',rfl,hF,pA⟩;have hq:=zFb HP.out hF;obtain rfl:t=t':=sB.out.trans hq.2.2.symm;have nB:=zB (show qG W.zRQ s b by rw[hq.1,hq.2.1];exact HA.out);have HF:=zB (show bA=zR W.zRQ s b by rw[mA.out,hq.1,hq.2.1]);clear hq sB mA HA;have oB:=hX.zRJ pA;have lB:=fB.zRJ pA;have jB:=zA sA pA;have rA:=zC w1 (.cells #[.int .i64 s,.int .i64 b] 61);have rB:=zB (zc.zRL w1 (.int .i64 s) (.int .i64 b) 61);have aB:=zB (oB.zRJ rA);have eB:=zB (lB.zRJ rA);have eA:=zA jB rA;clear hX fB sA pA vB hF oB lB jB rA;obtain⟨⟨y0,y1⟩,⟨y2,y3⟩⟩:=rB.out;obtain⟨⟨z0,z1⟩,⟨z2,z3⟩⟩:=aB.out;obtain⟨⟨x0,x1⟩,⟨x2,x3⟩,⟨x4,x5⟩,⟨x6,x7⟩,⟨x8,x9⟩,⟨iB,dB⟩⟩:=eB.out;go_wp2_with fail;generalize w1.alloc (.cells #[.int .i64 s,.int .i64 b] 61)=w3 at *;refine(yg v0 v1 lo hi W.zRQ s b w3 (Hp.out.zRQ.zRJ eA) HR.out nB.out).mono ?_;rintro e w4 ⟨vo,rfl,tB,vA⟩;have ho:=(tB.atW (by have:=qP W.zRQ s b;omega));have mB:=zB (aB.out.zRJ vA);have pB:=zB (eB.out.zRJ vA);have dA:=zA eA vA;clear tB vA aB eB rB eA x0 x1 x2 x3 x4 x5 x6 x7 x8 x9 iB dB y0 y1 y2 y3 z0 z1 z2 z3;obtain⟨⟨z0,z1⟩,⟨z2,z3⟩⟩:=mB.out;obtain⟨⟨x0,x1⟩,⟨x2,x3⟩,⟨x4,x5⟩,⟨x6,x7⟩,⟨x8,x9⟩,⟨iB,dB⟩⟩:=pB.out;go_wp2_with fail;refine(yg v0 v1 lo hi W.zRQ rs rb w4 (Hp.out.zRQ.zRJ dA) HR.out HT.out).mono ?_;rintro e w5 ⟨vn,rfl,bC,bB⟩;have hn:=(bC.atW (by have:=qP W.zRQ rs rb;omega));have gB:=ho.zRJ bB;have cA:=zA dA bB;clear bC bB mB pB dA ho x0 x1 x2 x3 x4 x5 x6 x7 x8 x9 iB dB z0 z1 z2 z3;rw[<-fA.out]at hn;rw[<-HF.out]at gB;clear HF nB HT fA HR HP;obtain⟨mn,an,cn,rfl,eC,_⟩:=id hn;have Hn:=zB hn;have Ho:=zB gB;clear hn gB;unfold maxLen at mn;go_wp2
 go_loopw [13] (fun i wr=>∃k:Nat,k<=aA.length/\i = .int .i64 k/\zQV aA bA t tm k/\Below w5.heap.size w5 wr) (fun i _=>aA.length - (intOf i).toNat)
 case atStart=>exact⟨0,Nat.zero_le _,rfl,fun j hj=>absurd hj (Nat.not_lt_zero _),Below.refl _ _⟩
 case round=>
  obtain⟨k,hk,rfl,nA,hb⟩:=hrel;have iA:=zB nA;clear nA;by_cases tA:k<aA.length
  ·have dC:(k:Int)<(aA.length:Int):=(by omega);obtain⟨b1,off,rfl,q0,q1⟩:=(Hn.out.zRJ hb).zRN tA;by_cases hg:tm<zh aA k
   ·have hd:decide (tm<zh aA k)=true:=(by simp[hg]);have Hg:=zB hg;clear hg;go_wp2
    go_quiet (fail)
    go_wp2;go_ret;exact⟨zG.no fun hA=>absurd ((zKz _ _ _ _).2 hA k tA).1 (by have:=Hg.out;omega),zg (zA cA hb) _⟩
   ·have hd:decide (tm<zh aA k)=false:=(by simp;omega);have Hg:=zB (show zh aA k<=tm by omega);clear hg;go_wp2_with fail;go_region_held3 (fun w'=>w'.cell? ⟨b1,off+k*2,none⟩=some (.int .i64 (zf aA k))/\w'.cell? ⟨b1,off+k*2+1,none⟩=some (.int .i64 (zh aA k))) (go_keep)
     (first | (go_at_call 142;refine(zDN _ bA.length 0 w4.heap.size (zf bA) (zh bA) (zf aA k) (zh aA k) _ ?_).mono ?_;(exact(Ho.out.zRJ hb).zRJ ((Below.refl _ _).drew));rintro e w6 ⟨⟨t6,rfl,kB⟩,oA⟩;have z1:=(oA.cell (p:=⟨b1,off+k*2,none⟩) (zD q0)).trans q0;have z2:=(oA.cell (p:=⟨b1,off+k*2+1,none⟩) (zD q1)).trans q1))
    have aC:=qi hb oA;have cC:=zB (kB.trans zBS);clear kB oA z1 z2 q0 q1 hd;have lA:(t6 == decide (zh aA k<=t))=true↔((zf aA k,zh aA k)∈bA↔zh aA k<=t):=by
     have ho:=cC.out;cases t6<;>simp_all
    have kA:=zB lA;clear lA;cases hc:(t6 == decide (zh aA k<=t))
    ·go_wp2;go_ret;exact⟨zG.no fun hA=>absurd (kA.out.2 ((zKz _ _ _ _).2 hA k tA).2) (by simp[hc]),zA cA aC⟩
    ·go_wp2;go_roundw
     case rel=>exact⟨k+1,by omega,by go_num,zo tA iA.out ⟨Hg.out,kA.out.1 hc⟩,aC⟩
     case measure=>simp[intOf];omega
  ·obtain rfl:k=aA.length:=(by omega);go_wp2;go_ret;exact⟨zG.yes ((zKz _ _ _ _).1 iA.out),zA cA hb⟩
theorem zJ1{l m:List (Int×Int)}{k:Nat}(hk:k<l.length)(h:(zf l k,zh l k)∈m):zAP (l.take (k+1)) m=zAP (l.take k) m:=by
 unfold zf zh at h;rw[yE hk]at h;unfold zAP;rw[List.take_succ_eq_append_getElem hk,List.filter_append,List.filter_cons];simp only[List.filter_nil];rw[if_neg (by simp;exact h),List.append_nil]
theorem zHs{l m:List (Int×Int)}{k:Nat}(hk:k<l.length)(h:(zf l k,zh l k)∉m):zAP (l.take (k+1)) m=zAP (l.take k) m ++ [(zf l k,zh l k)]:=by
 unfold zf zh at h ⊢;rw[yE hk]at h ⊢;unfold zAP;rw[List.take_succ_eq_append_getElem hk,List.filter_append,List.filter_cons];simp only[List.filter_nil];rw[if_pos (by simp;exact h)]
theorem zLD(l m:List (Int×Int))(k:Nat):(zAP (l.take k) m).length<=k:=by
 unfold zAP;exact Nat.le_trans (List.length_filter_le _ _) (by rw[List.length_take];omega)
theorem zG4(v0 v1 v2 v3 vd:Value)(lo hi iC tB dn:Nat)(ds db:Nat->Int)(W:zH)(x rs rb:Int)(cA aA:List (Int×Int))(w:World)(h:zl w lo hi v0 v1 v2 v3 W)(hD:zU w iC tB vd dn ds db)(hR:zv W.zRQ)(hT:qG W.zRQ rs rb)(hA:qG W.zRQ (zN W x).rs (zN W x).rb)(hP:zCc W)(mA:cA=zR W.zRQ rs rb)(pA:aA=zR W.zRQ (zN W x).rs (zN W x).rb) :
  Calls Tryz.prog 72 #[zz v0 v1 v2 v3 W,.int .i64 x,.agg #[.int .i64 rs,.int .i64 rb],vd] w fun e w'=>zG (zDh dn ds db (zAP aA cA)) e/\Below w.heap.size w w':=by
 have Hp:=zB h;have HR:=zB hR;have HT:=zB hT;have HA:=zB hA;have HP:=zB hP;have fA:=zB mA;have rA:=zB pA;have HD:=zB hD;clear h hR hT hA hP mA pA hD;have ha:=zC w (.cells #[v0,v1,.int .i64 W.time,.int .i64 W.next,v2,v3] 37);have hB:=zi.zRL w v0 v1 (.int .i64 W.time) (.int .i64 W.next) v2 v3 37;have iB:=zC (w.alloc (.cells #[v0,v1,.int .i64 W.time,.int .i64 W.next,v2,v3] 37)) (.cells #[.int .i64 rs,.int .i64 rb] 61);have hX:=zc.zRL (w.alloc (.cells #[v0,v1,.int .i64 W.time,.int .i64 W.next,v2,v3] 37)) (.int .i64 rs) (.int .i64 rb) 61;have lB:=hB.zRJ iB;have bB:=zA ha iB;have kC:(w.alloc (.cells #[v0,v1,.int .i64 W.time,.int .i64 W.next,v2,v3] 37)).heap.size=w.heap.size+1:=World.size_alloc _ _;rw[kC]at hX;clear ha iB hB;go_enter Tryz.func72,Tryz.ntmps72;go_wp2_with fail;generalize ((w.alloc (.cells #[v0,v1,.int .i64 W.time,.int .i64 W.next,v2,v3] 37)).alloc (.cells #[.int .i64 rs,.int .i64 rb] 61))=W0 at hX lB bB ⊢;refine(zAj v0 v1 v2 _ lo hi W x W0 (Hp.out.zRJ bB)).mono ?_;rintro e w1 ⟨s,b,t,rfl,hF,tA⟩;have hq:=zFb HP.out hF;have bC:=zB (show qG W.zRQ s b by rw[hq.1,hq.2.1];exact HA.out);have HF:=zB (show aA=zR W.zRQ s b by rw[rA.out,hq.1,hq.2.1]);clear hq rA HA;have cC:=hX.zRJ tA;have vB:=lB.zRJ tA;have rB:=zA bB tA;have vA:=zC w1 (.cells #[.int .i64 s,.int .i64 b] 61);have eC:=zB (zc.zRL w1 (.int .i64 s) (.int .i64 b) 61);have eB:=zB (cC.zRJ vA);have kB:=zB (vB.zRJ vA);have kA:=zA rB vA;clear hX lB bB tA kC hF cC vB rB vA;obtain⟨⟨y0,y1⟩,⟨y2,y3⟩⟩:=eC.out;obtain⟨⟨z0,z1⟩,⟨z2,z3⟩⟩:=eB.out;obtain⟨⟨x0,x1⟩,⟨x2,x3⟩,⟨x4,x5⟩,⟨x6,x7⟩,⟨x8,x9⟩,⟨nB,jB⟩⟩:=kB.out;go_wp2_with fail;generalize w1.alloc (.cells #[.int .i64 s,.int .i64 b] 61)=w3 at *;refine(yg v0 v1 lo hi W.zRQ s b w3 (Hp.out.zRQ.zRJ kA) HR.out bC.out).mono ?_;rintro e w4 ⟨vo,rfl,jC,cB⟩;have ho:=(jC.atW (by have:=qP W.zRQ s b;omega));have aC:=zB (eB.out.zRJ cB);have dC:=zB (kB.out.zRJ cB);have jA:=zA kA cB;clear jC cB eB kB eC kA x0 x1 x2 x3 x4 x5 x6 x7 x8 x9 nB jB y0 y1 y2 y3 z0 z1 z2 z3;obtain⟨⟨z0,z1⟩,⟨z2,z3⟩⟩:=aC.out;obtain⟨⟨x0,x1⟩,⟨x2,x3⟩,⟨x4,x5⟩,⟨x6,x7⟩,⟨x8,x9⟩,⟨nB,jB⟩⟩:=dC.out;go_wp2_with fail;refine(yg v0 v1 lo hi W.zRQ rs rb w4 (Hp.out.zRQ.zRJ jA) HR.out HT.out).mono ?_;rintro e w5 ⟨vn,rfl,mC,gB⟩;have hn:=(mC.atW (by have:=qP W.zRQ rs rb;omega));have aB:=ho.zRJ gB;have lA:=zA jA gB;clear mC gB aC dC jA ho x0 x1 x2 x3 x4 x5 x6 x7 x8 x9 nB jB z0 z1 z2 z3;have HL:=zB (show cA.length<=73/\aA.length<=73 by rw[fA.out,HF.out];exact⟨qP _ _ _,qP _ _ _⟩);rw[<-fA.out]at hn;rw[<-HF.out]at aB;clear HF bC HT fA HR HP;obtain⟨mo,ao,co,rfl,bD,_⟩:=id aB;have eD:aA.length<=73:=HL.out.2;have Hn:=zB hn;have Ho:=zB aB;have tC:=zB (HD.out.zRJ lA);clear hn aB HD;unfold maxLen at mo;obtain⟨i0,fC,pB⟩:=Option.map_eq_some_iff.1 zAz;simp only[Prod.mk.injEq]at pB;have HI:=zB (And.intro fC pB);clear fC pB;have sB:=zB (zC w5 (.cells #[] 61));have lC:=zB (show zw (w5.alloc (.cells #[] 61)) w5.heap.size (.slice (some ⟨w5.heap.size,0,none⟩) 0 0) [] from World.ownsRow_lit (e:=61) (size:=2) w5 #[] 0 (Nat.le_refl _) (by unfold maxLen;omega) rfl);go_wp2
 go_loopw [13,14] (fun vw i wr=>∃k:Nat,k<=aA.length/\i = .int .i64 k/\zw wr w5.heap.size vw (zAP (aA.take k) cA)/\Below w5.heap.size w5 wr) (fun _ i _=>aA.length - (intOf i).toNat)
 case atStart=>exact⟨0,Nat.zero_le _,rfl,by rw[List.take_zero];exact lC.out,sB.out⟩
 case round=>
  obtain⟨k,hk,rfl,oA,hb⟩:=hrel;have dA:=zB oA;clear oA lC sB;by_cases oB:k<aA.length
  ·have sC:(k:Int)<(aA.length:Int):=(by omega);obtain⟨b1,off,rfl,q0,q1⟩:=(Ho.out.zRJ hb).zRN oB;go_wp2_with fail;refine(zDN _ cA.length 0 w5.heap.size (zf cA) (zh cA) (zf aA k) (zh aA k) _ (Hn.out.zRJ hb)).mono ?_;rintro e w6 ⟨⟨t6,rfl,nA⟩,gA⟩;have z0:=(gA.cell (p:=⟨b1,off+k*2,none⟩) (zD q0)).trans q0;have z1:=(gA.cell (p:=⟨b1,off+k*2+1,none⟩) (zD q1)).trans q1;have mB:=zA hb gA;have bA:=zB (dA.out.zRJ gA);have dB:=zB (nA.trans zBS);clear nA gA q0 q1 dA;cases t6
   ·have fB:=zC w6 (.cells #[.int .i64 (zf aA k),.int .i64 (zh aA k)] 61);have eA:=zB (bA.out.zRJ fB);have gC:=zA mB fB;have dD:=mB.size;have fD:(w6.alloc (.cells #[.int .i64 (zf aA k),.int .i64 (zh aA k)] 61)).heap.size=w6.heap.size+1:=World.size_alloc _ _;have HN:=zB (World.news_of_block (heap_alloc_last w6 (.cells #[.int .i64 (zf aA k),.int .i64 (zh aA k)] 61)));have vC:=zLD aA cA k;clear fB bA;go_wp2_with (first
     | (at_builtin;refine wpList_append_lies _ rfl _ _ 62 rfl w5.heap.size 61 i0 (.agg #[.int .i64 0,.int .i64 0]) 2 16 (by kernel_rfl) HI.out.1 HI.out.2.1 HI.out.2.2.1 HI.out.2.2.2 rfl (by decide) _ _ _ rfl eA.out ⟨w6.heap.size,0,none⟩ 1 1 [.int .i64 (zf aA k),.int .i64 (zh aA k)] rfl rfl HN.out (by simp[Value.oneCell']) (by decide) (by unfold maxLen;omega) (by omega) (by omega) _ rfl ?_;intro g' rC w8 sA iA nC aD)
     | go_in)
    go_roundw
    case rel=>exact⟨k+1,by omega,by go_num,by rw[zHs oB (fun h=>absurd (dB.out.2 h) (by simp))];exact zw.next sA,gC.grown iA gC.size (fun q hq=>(eA.out.lt hq).1)⟩
    case measure=>simp[intOf];omega
   ·have Hm:=zB (dB.out.1 rfl);clear dB;go_wp2;go_roundw
    case rel=>exact⟨k+1,by omega,by go_num,by rw[zJ1 oB Hm.out];exact bA.out,mB⟩
    case measure=>simp[intOf];omega
  ·obtain rfl:k=aA.length:=(by omega);have hw:=dA.out;rw[List.take_length]at hw;have cD:(zAP aA cA).length<=aA.length:=List.length_filter_le _ _;have pC:=hw.atW (by omega);clear hw dA;go_wp2_with fail;refine(zGM vd _ dn iC tB _ 0 wr.heap.size ds db _ _ wr (tC.out.zRJ hb) pC).mono ?_;rintro e w6 ⟨⟨t6,rfl,nA⟩,gA⟩;have oC:=zB nA;clear nA;go_wp2;go_ret;exact⟨⟨t6,rfl,oC.out⟩,zA lA (zA hb gA)⟩
def zCb(W:zH)(i:Nat):Prop:=zNO (yU W (zO W i)) (zCr W (zO W i)) (zN W (zO W i).zRT).time (zO W i).time
theorem zBF.snap{W:zH}(h:zBF W){k:Nat}(hk:k<W.pn):qG W.zRQ (W.zRP k).rs (W.zRP k).rb:=by
 have:=h.tree k (by unfold zq;omega);rw[qS hk]at this;exact this
theorem zBF.set{W:zH}(h:zBF W){k:Nat}(hk:k<W.sn):qG W.zRQ (W.zRS k).rs (W.zRS k).rb:=by
 have:=h.tree (W.pn+k) (by unfold zq;omega);rw[yH]at this;exact this
theorem zLP{v0 v1 v2 v3:Value}{lo hi:Nat}{W:zH}{w:World}(h:zl w lo hi v0 v1 v2 v3 W)(hT:zBF W)(hP:zCc W){k:Nat}(hk:k<W.pn)(w':World)(hb:Below w.heap.size w w') :
  Calls Tryz.prog 144 #[zz v0 v1 v2 v3 W,.int .i64 (W.zRP k).zRT,.agg #[.int .i64 (W.zRP k).rs,.int .i64 (W.zRP k).rb],.int .i64 (W.zRP k).time] w' fun e aA=>zG (zCb W k) e/\Below w'.heap.size w' aA:=by
 unfold zCb;rw[qS hk];exact zEx v0 v1 v2 v3 lo hi W _ _ _ _ _ _ _ w' (h.zRJ hb) hT.right (hT.snap hk) (hT.old _) hP rfl rfl rfl
theorem zMd{v0 v1 v2 v3:Value}{lo hi:Nat}{W:zH}{w:World}(h:zl w lo hi v0 v1 v2 v3 W)(hT:zBF W)(hP:zCc W){k:Nat}(hk:k<W.sn)(w':World)(hb:Below w.heap.size w w') :
  Calls Tryz.prog 144 #[zz v0 v1 v2 v3 W,.int .i64 (W.zRS k).zRT,.agg #[.int .i64 (W.zRS k).rs,.int .i64 (W.zRS k).rb],.int .i64 W.time] w' fun e aA=>zG (zCb W (W.pn+k)) e/\Below w'.heap.size w' aA:=by
 unfold zCb;rw[yH];exact zEx v0 v1 v2 v3 lo hi W _ _ _ _ _ _ _ w' (h.zRJ hb) hT.right (hT.set hk) (hT.old _) hP rfl rfl rfl
theorem zLB(v0 v1 v2 v3:Value)(lo hi:Nat)(W:zH)(w:World)(h:zl w lo hi v0 v1 v2 v3 W)(hT:zBF W)(hP:zCc W) :
  Calls Tryz.prog 76 #[zz v0 v1 v2 v3 W] w fun e w'=>zG (∀i,i<zq W->zCb W i) e/\Below w.heap.size w w':=by
 have Hp:=zB h;have HT:=zB hT;have HP:=zB hP;obtain⟨m1,a,c,rfl,mc,_⟩:=id h.zRP;obtain⟨m2,a',c',rfl,lA,_⟩:=id h.zRS;unfold maxLen at m1 m2;clear h hT hP;have ha:=zC w (.cells #[v0,v1,.int .i64 W.time,.int .i64 W.next,.slice a' W.sn c',.slice a W.pn c] 37);have HB:=zB (zi.zRL w v0 v1 (.int .i64 W.time) (.int .i64 W.next) (.slice a' W.sn c') (.slice a W.pn c) 37);go_enter Tryz.func76,Tryz.ntmps76;go_wp2
 go_loopw [3] (fun i wr=>∃k:Nat,k<=W.pn/\i = .int .i64 k/\(∀j,j<k->zCb W j)/\zi wr w.heap.size v0 v1 (.int .i64 W.time) (.int .i64 W.next) (.slice a' W.sn c') (.slice a W.pn c)/\Below w.heap.size w wr) (fun i _=>W.pn - (intOf i).toNat)
 case atStart=>exact⟨0,Nat.zero_le _,rfl,fun j hj=>absurd hj (Nat.not_lt_zero _),HB.out,ha⟩
 case round=>
  obtain⟨k,hk,rfl,cA,hX,hb⟩:=hrel;have bA:=zB cA;have HX:=zB hX;clear cA hX ha HB;obtain⟨⟨x0,x1⟩,⟨x2,x3⟩,⟨x4,x5⟩,⟨x6,x7⟩,⟨x8,x9⟩,⟨kA,gA⟩⟩:=HX.out;by_cases dA:k<W.pn
  ·have jA:(k:Int)<(W.pn:Int):=(by omega);have Hc:=zB (zLP (Hp.out.zRJ hb) HT.out HP.out dA);obtain⟨b,off,vd,rfl,hs⟩:=(Hp.out.zRP.zRJ hb).cells dA;have q3:=hs.c3;have q4:=hs.c4;have q5:=hs.c5;have q6:=hs.c6;clear hs x1 x3 x5 x7 x9 gA;go_wp2_with fail;go_region_held3 (fun w'=>w'.cell? ⟨w.heap.size,0,none⟩=some v0/\w'.cell? ⟨w.heap.size,1,none⟩=some v1/\w'.cell? ⟨w.heap.size,2,none⟩=some (.int .i64 W.time)/\w'.cell? ⟨w.heap.size,3,none⟩=some (.int .i64 W.next)/\w'.cell? ⟨w.heap.size,4,none⟩=some (.slice a' W.sn c')/\w'.cell? ⟨w.heap.size,5,none⟩=some (.slice (some ⟨b,off,none⟩) W.pn c)/\w'.cell? ⟨b,off+k*8+3,none⟩=some (.int .i64 (W.zRP k).zRT)/\w'.cell? ⟨b,off+k*8+4,none⟩=some (.int .i64 (W.zRP k).time)/\w'.cell? ⟨b,off+k*8+5,none⟩=some (.int .i64 (W.zRP k).rs)/\w'.cell? ⟨b,off+k*8+6,none⟩=some (.int .i64 (W.zRP k).rb)) (go_keep)
    (first | (go_at_call 144;refine(Hc.out _ ?_).mono ?_;(exact(Below.refl _ _).drew);rintro e w6 ⟨⟨t6,rfl,fA⟩,aA⟩;obtain⟨⟨y0,_⟩,⟨y1,_⟩,⟨y2,_⟩,⟨y3,_⟩,⟨y4,_⟩,⟨y5,_⟩⟩:=HX.out.zRJ (zK aA);have z3:=(aA.cell (p:=⟨b,off+k*8+3,none⟩) (zD q3)).trans q3;have z4:=(aA.cell (p:=⟨b,off+k*8+4,none⟩) (zD q4)).trans q4;have z5:=(aA.cell (p:=⟨b,off+k*8+5,none⟩) (zD q5)).trans q5;have z6:=(aA.cell (p:=⟨b,off+k*8+6,none⟩) (zD q6)).trans q6))
   have eA:=qi hb aA;have iA:=zB (HX.out.zRJ (zK aA));have Ht:=zB fA;clear fA aA z3 z4 z5 z6 y0 y1 y2 y3 y4 y5 q3 q4 q5 q6 HX;cases t6
   ·have Hn:=zB (show ¬zCb W k from fun hA=>absurd (Ht.out.2 hA) (by simp));clear Ht;go_wp2;go_ret;exact⟨zG.no fun hA=>Hn.out (hA k (by unfold zq;omega)),eA⟩
   ·have Hn:=zB (Ht.out.1 rfl);clear Ht;go_wp2;go_roundw
    case rel=>exact⟨k+1,by omega,by go_num,zo dA bA.out Hn.out,iA.out,eA⟩
    case measure=>simp[intOf];omega
  ·obtain rfl:k=W.pn:=(by omega);go_wp2
   go_loopw [4] (fun i wr=>∃k:Nat,k<=W.sn/\i = .int .i64 k/\(∀j,j<W.pn+k->zCb W j)/\zi wr w.heap.size v0 v1 (.int .i64 W.time) (.int .i64 W.next) (.slice a' W.sn c') (.slice a W.pn c)/\Below w.heap.size w wr) (fun i _=>W.sn - (intOf i).toNat)
   case atStart=>exact⟨0,Nat.zero_le _,rfl,bA.out,HX.out,hb⟩
   case round=>
    clear x0 x1 x2 x3 x4 x5 x6 x7 x8 x9 kA gA HX hb bA;obtain⟨k,hk,rfl,cA,hX,hb⟩:=hrel;have bA:=zB cA;have HX:=zB hX;clear cA hX;obtain⟨⟨x0,x1⟩,⟨x2,x3⟩,⟨x4,x5⟩,⟨x6,x7⟩,⟨x8,x9⟩,⟨kA,gA⟩⟩:=HX.out;by_cases dA:k<W.sn
    ·have jA:(k:Int)<(W.sn:Int):=(by omega);have Hc:=zB (zMd (Hp.out.zRJ hb) HT.out HP.out dA);obtain⟨b,off,vd,rfl,hs⟩:=(Hp.out.zRS.zRJ hb).cells dA;have q3:=hs.c2;have q5:=hs.c3;have q6:=hs.c4;clear hs x1 x3 x5 x7 x9 gA;go_wp2_with fail;go_region_held3 (fun w'=>w'.cell? ⟨w.heap.size,0,none⟩=some v0/\w'.cell? ⟨w.heap.size,1,none⟩=some v1/\w'.cell? ⟨w.heap.size,2,none⟩=some (.int .i64 W.time)/\w'.cell? ⟨w.heap.size,3,none⟩=some (.int .i64 W.next)/\w'.cell? ⟨w.heap.size,4,none⟩=some (.slice (some ⟨b,off,none⟩) W.sn c')/\w'.cell? ⟨w.heap.size,5,none⟩=some (.slice a W.pn c)/\w'.cell? ⟨b,off+k*6+2,none⟩=some (.int .i64 (W.zRS k).zRT)/\w'.cell? ⟨b,off+k*6+3,none⟩=some (.int .i64 (W.zRS k).rs)/\w'.cell? ⟨b,off+k*6+4,none⟩=some (.int .i64 (W.zRS k).rb)) (go_keep)
      (first | (go_at_call 144;refine(Hc.out _ ?_).mono ?_;(exact(Below.refl _ _).drew);rintro e w6 ⟨⟨t6,rfl,fA⟩,aA⟩;obtain⟨⟨y0,_⟩,⟨y1,_⟩,⟨y2,_⟩,⟨y3,_⟩,⟨y4,_⟩,⟨y5,_⟩⟩:=HX.out.zRJ (zK aA);have z3:=(aA.cell (p:=⟨b,off+k*6+2,none⟩) (zD q3)).trans q3;have z5:=(aA.cell (p:=⟨b,off+k*6+3,none⟩) (zD q5)).trans q5;have z6:=(aA.cell (p:=⟨b,off+k*6+4,none⟩) (zD q6)).trans q6))
     have eA:=qi hb aA;have iA:=zB (HX.out.zRJ (zK aA));have Ht:=zB fA;clear fA aA z3 z5 z6 y0 y1 y2 y3 y4 y5 q3 q5 q6 HX;cases t6
     ·have Hn:=zB (show ¬zCb W (W.pn+k)from fun hA=>absurd (Ht.out.2 hA) (by simp));clear Ht;go_wp2;go_ret;exact⟨zG.no fun hA=>Hn.out (hA _ (by unfold zq;omega)),eA⟩
     ·have Hn:=zB (Ht.out.1 rfl);clear Ht;go_wp2;go_roundw
      case rel=>
       refine⟨k+1,by omega,by go_num,fun j hj=>?_,iA.out,eA⟩;by_cases e:j=W.pn+k
       ·subst e;exact Hn.out
       ·exact bA.out j (by omega)
      case measure=>simp[intOf];omega
    ·obtain rfl:k=W.sn:=(by omega);go_wp2;go_ret;exact⟨zG.yes bA.out,hb⟩
def yd(w:World)(R n:Nat)(f:Nat->Bool):Prop:=∀i,i<n->zX w R i (.bool (f i))
theorem yd.zRJ{w w':World}{R n:Nat}{f:Nat->Bool}(h:yd w R n f)(t:Below w.heap.size w w'):yd w' R n f:=fun i hi=>(h i hi).zRJ t
theorem yd.put{w:World}{R n:Nat}{f:Nat->Bool}(h:yd w R n f){k:Nat}(c:Bool):yd (w.setCell ⟨R,k,none⟩ (.bool c)) R n (fun i=>if i=k then c else f i):=fun i hi=>by
 by_cases e:i=k
 ·subst e;show zX _ R i (.bool (if i=i then c else f i));rw[if_pos rfl];exact(h i hi).set _
 ·show zX _ R i (.bool (if i=k then c else f i));rw[if_neg e];exact(h i hi).zRK _ (Or.inr (fun h=>e h.symm))
theorem zQO(z:Value)(n:Nat){i:Nat}(hi:i<n):(madeCells #[z] n)[i]?=some z:=by
 simp[madeCells,hi,Nat.mod_one]
theorem yd.zRL(w:World)(n:Nat)(t:TypeId):yd (w.alloc (.cells (madeCells #[.bool false] n) t)) w.heap.size n (fun _=>false):=fun i hi=>by
 have hb:(w.alloc (.cells (madeCells #[Value.bool false] n) t)).heap[w.heap.size]?=some (.cells (madeCells #[.bool false] n) t):=heap_alloc_new _ _;exact zI hb (zQO _ _ hi)
theorem zPb:(Tryz.prog.info? 4).map (fun i=>(i.zero,i.size,i.bytes))=some (some (.bool false),1,1):=by kernel_rfl
theorem zD9(n:Nat)(hn:n<=1000)(w:World):(Instr.makeSlice 123 (.int .i64 (n:Int)) (.int .i64 (n:Int))).run Tryz.prog w = .ok (.slice (some ⟨w.heap.size,0,none⟩) n n) (w.alloc (.cells (madeCells #[.bool false] n) 4)):=
 run_make_row' 123 4 (.bool false) 1 (by kernel_rfl) zPb rfl .i64 .i64 n (by omega) (by omega) w
def zFR(W:zH)(s:Nat):Prop:=∃m,m<zq W/\∃b,((s:Int),b)∈yU W (zO W m)
def zBZ(W:zH)(i:Nat):Int×Int:=if i<W.sn then((W.zRS i).rs,(W.zRS i).rb)else((W.zRP (i - W.sn)).rs,(W.zRP (i - W.sn)).rb)
def zB4(W:zH)(n:Nat):List (Int×Int):=(List.range n).map (zBZ W)
theorem zBj(W:zH)(n:Nat):(zB4 W n).length=n:=by simp[zB4]
theorem zGp(W:zH)(n:Nat):zB4 W (n+1)=zB4 W n ++ [zBZ W n]:=by simp[zB4,List.range_succ]
theorem zEh{W:zH}{i:Nat}(h:i<W.sn):zBZ W i=((W.zRS i).rs,(W.zRS i).rb):=if_pos h
theorem zDm(W:zH)(i:Nat):zBZ W (W.sn+i)=((W.zRP i).rs,(W.zRP i).rb):=by
 unfold zBZ;rw[if_neg (by omega),show W.sn+i - W.sn=i by omega]
theorem zN4{W:zH}{n i:Nat}(h:i<n):zf (zB4 W n) i=(zBZ W i).1/\zh (zB4 W n) i=(zBZ W i).2:=by
 unfold zf zh;rw[yE (by rw[zBj];exact h)];simp[zB4]
theorem zPw{W:zH}(hT:zBF W){i:Nat}(hi:i<W.sn+W.pn):qG W.zRQ (zBZ W i).1 (zBZ W i).2:=by
 by_cases h:i<W.sn
 ·rw[zEh h];exact hT.set h
 ·have:=zDm W (i - W.sn);rw[show W.sn+(i - W.sn)=i by omega]at this;rw[this];exact hT.snap (by omega)
theorem zM0{W:zH}{s:Nat}:zFR W s↔∃i,i<W.sn+W.pn/\∃b,((s:Int),b)∈zR W.zRQ (zBZ W i).1 (zBZ W i).2:=by
 unfold zFR zq yU;constructor
 ·rintro⟨m,hm,b,h⟩;by_cases hp:m<W.pn
  ·rw[qS hp]at h;exact⟨W.sn+m,by omega,b,by rw[zDm];exact h⟩
  ·have e:=yH W (m - W.pn);rw[show W.pn+(m - W.pn)=m by omega]at e;rw[e]at h;exact⟨m - W.pn,by omega,b,by rw[zEh (by omega)];exact h⟩
 ·rintro⟨i,hi,b,h⟩;by_cases hs:i<W.sn
  ·rw[zEh hs]at h;exact⟨W.pn+i,by omega,b,by rw[yH];exact h⟩
  ·have e:=zDm W (i - W.sn);rw[show W.sn+(i - W.sn)=i by omega]at e;rw[e]at h;exact⟨i - W.sn,by omega,b,by rw[qS (by omega)];exact h⟩
def zQ7(W:zH)(k:Nat)(l:List (Int×Int))(j s:Nat):Prop:=(∃i,i<k/\∃b,((s:Int),b)∈zR W.zRQ (zBZ W i).1 (zBZ W i).2)\/∃q,q<j/\zf l q=(s:Int)
def zD0(W:zH)(k:Nat)(l:List (Int×Int))(j:Nat)(f:Nat->Bool):Prop:=∀s,f s=true↔zQ7 W k l j s
theorem zM8{W:zH}{k j s:Nat}{l:List (Int×Int)}{f:Nat->Bool}(h:zD0 W k l j f)(hs:zf l j=(s:Int)):zD0 W k l (j+1) (fun i=>if i=s then true else f i):=by
 intro i;show(if i=s then true else f i)=true↔_;by_cases e:i=s
 ·subst e;rw[if_pos rfl];exact⟨fun _=>Or.inr ⟨j,by omega,hs⟩,fun _=>rfl⟩
 ·rw[if_neg e,h i];constructor
  ·rintro(h | ⟨q,hq,h⟩)
   ·exact Or.inl h
   ·exact Or.inr ⟨q,by omega,h⟩
  ·rintro(h | ⟨q,hq,h⟩)
   ·exact Or.inl h
   ·by_cases eq:q=j
    ·subst eq;exact absurd (by omega) e
    ·exact Or.inr ⟨q,by omega,h⟩
theorem zMQ{W:zH}{k:Nat}{l:List (Int×Int)}{f:Nat->Bool}(h:zD0 W k l l.length f)(hl:l=zR W.zRQ (zBZ W k).1 (zBZ W k).2):zD0 W (k+1) [] 0 f:=by
 intro s;rw[h s];constructor
 ·rintro(⟨i,hi,h⟩ | ⟨q,hq,e⟩)
  ·exact Or.inl ⟨i,by omega,h⟩
  ·refine Or.inl ⟨k,by omega,(l[q]).2,?_⟩;unfold zf at e;rw[yE hq]at e;rw[<-hl,<-e];exact List.getElem_mem hq
 ·rintro(⟨i,hi,b,h2⟩ | ⟨q,hq,e⟩)
  ·by_cases e:i=k
   ·subst e;rw[<-hl]at h2;obtain⟨q,hq,e⟩:=List.getElem_of_mem h2;exact Or.inr ⟨q,hq,by unfold zf;rw[yE hq,e]⟩
   ·exact Or.inl ⟨i,by omega,b,h2⟩
  ·omega
theorem zLG{W:zH}{k:Nat}{f:Nat->Bool}(h:zD0 W k [] 0 f)(l:List (Int×Int)):zD0 W k l 0 f:=by
 intro s;rw[h s];constructor
 ·rintro(h | ⟨q,hq,_⟩)
  ·exact Or.inl h
  ·omega
 ·rintro(h | ⟨q,hq,_⟩)
  ·exact Or.inl h
  ·omega
theorem zHe{p:zJ}{rs rb:Int}(hR:zv p)(hT:qG p rs rb){j:Nat}(hj:j<(zR p rs rb).length):∃s:Nat,zf (zR p rs rb) j=(s:Int)/\s<p.n:=by
 unfold zf;rw[yE hj];have:=(zAX hR hT (List.getElem_mem hj)).1;obtain⟨_,h0,h1,_⟩:=this;exact⟨((zR p rs rb)[j]).1.toNat,by omega,by omega⟩
theorem zi.grown{w w1:World}{b:Nat}{v0 v1 v2 v3 v4 v5:Value}{row:Option Nat}(h:zi w b v0 v1 v2 v3 v4 v5)(hg:w.grownBy w1 row)(aA:∀q,row=some q->b≠q):zi w1 b v0 v1 v2 v3 v4 v5:=by
 have hb:b<w.heap.size:=h.1.lt;refine h.zRR (S:=fun k=>row=some k) ⟨hg.os,hg.tape,hg.output,hg.size,fun k hk hs=>hg.block k hk (fun e=>hs e.symm)⟩ (fun e=>aA b e rfl)
theorem yd.grown{w w1:World}{R n:Nat}{f:Nat->Bool}{row:Option Nat}(h:yd w R n f)(hg:w.grownBy w1 row)(aA:∀q,row=some q->R≠q):yd w1 R n f:=fun i hi=>
 (h i hi).zRR (S:=fun k=>row=some k) ⟨hg.os,hg.tape,hg.output,hg.size,fun k hk hs=>hg.block k hk (fun e=>hs e.symm)⟩ (fun e=>aA R e rfl)
theorem zKn(v0 v1 v2 v3:Value)(lo hi:Nat)(W:zH)(w:World)(h:zl w lo hi v0 v1 v2 v3 W)(hT:zBF W)(hs:W.sn<=8)(hp:W.pn<=20) :
  Calls Tryz.prog 73 #[zz v0 v1 v2 v3 W] w fun e w'=>∃R f,e = .returned (.slice (some ⟨R,0,none⟩) W.zRQ.n W.zRQ.n)/\w.heap.size<=R/\yd w' R W.zRQ.n f/\(∀s,f s=true↔zFR W s)/\Below w.heap.size w w':=by
 have Hp:=zB h;have HT:=zB hT;obtain⟨m1,a,c,rfl,mc,_⟩:=id h.zRP;obtain⟨m2,a',c',rfl,vC,_⟩:=id h.zRS;obtain⟨m0,a0,c0,rfl,rC,_⟩:=id h.zRQ.1;unfold maxLen at m0 m1 m2;have pC:W.zRQ.n<=200:=hT.right.1;clear h hT;obtain⟨i0,cC,nB⟩:=Option.map_eq_some_iff.1 zAz;simp only[Prod.mk.injEq]at nB;have HI:=zB (And.intro cC nB);clear cC nB;have oC:=zD9 W.zRQ.n (by omega);have ha:=zC w (.cells #[.slice a0 W.zRQ.n c0,v1,.int .i64 W.time,.int .i64 W.next,.slice a' W.sn c',.slice a W.pn c] 37);have kB:(w.alloc (.cells #[.slice a0 W.zRQ.n c0,v1,.int .i64 W.time,.int .i64 W.next,.slice a' W.sn c',.slice a W.pn c] 37)).heap.size=w.heap.size+1:=World.size_alloc _ _;have rB:∀W1:World,W1=w.alloc (.cells #[.slice a0 W.zRQ.n c0,v1,.int .i64 W.time,.int .i64 W.next,.slice a' W.sn c',.slice a W.pn c] 37)->zi ((W1.alloc (.cells (madeCells #[.bool false] W.zRQ.n) 4)).alloc (.cells #[] 61)) w.heap.size (.slice a0 W.zRQ.n c0) v1 (.int .i64 W.time) (.int .i64 W.next) (.slice a' W.sn c') (.slice a W.pn c)/\yd ((W1.alloc (.cells (madeCells #[.bool false] W.zRQ.n) 4)).alloc (.cells #[] 61)) (w.heap.size+1) W.zRQ.n (fun _=>false)/\zw ((W1.alloc (.cells (madeCells #[.bool false] W.zRQ.n) 4)).alloc (.cells #[] 61)) (w.heap.size+2) (.slice (some ⟨w.heap.size+1+1,0,none⟩) 0 0) []/\Below w.heap.size w ((W1.alloc (.cells (madeCells #[.bool false] W.zRQ.n) 4)).alloc (.cells #[] 61)):=by
  rintro W1 rfl;have hB:=zi.zRL w (.slice a0 W.zRQ.n c0) v1 (.int .i64 W.time) (.int .i64 W.next) (.slice a' W.sn c') (.slice a W.pn c) 37;have hR:=yd.zRL (w.alloc (.cells #[.slice a0 W.zRQ.n c0,v1,.int .i64 W.time,.int .i64 W.next,.slice a' W.sn c',.slice a W.pn c] 37)) W.zRQ.n 4;rw[kB]at hR;generalize w.alloc (.cells #[.slice a0 W.zRQ.n c0,v1,.int .i64 W.time,.int .i64 W.next,.slice a' W.sn c',.slice a W.pn c] 37)=W1 at *;have b2:=zC W1 (.cells (madeCells #[.bool false] W.zRQ.n) 4);have dB:(W1.alloc (.cells (madeCells #[.bool false] W.zRQ.n) 4)).heap.size=w.heap.size+1+1:=(by rw[World.size_alloc,kB]);have kC:=hB.zRJ b2;have mC:=zA ha b2;generalize W1.alloc (.cells (madeCells #[.bool false] W.zRQ.n) 4)=W2 at *;have b3:=zC W2 (.cells #[] 61);have l3:=World.ownsRow_lit (e:=61) (size:=2) (base:=w.heap.size+2) W2 #[] 0 (by rw[dB];omega) (by unfold maxLen;omega) rfl;rw[dB]at l3;exact⟨kC.zRJ b3,hR.zRJ b3,l3,zA mC b3⟩
 have vB:=zB (rB _ rfl);clear rB;go_enter Tryz.func73,Tryz.ntmps73;obtain⟨⟨x0,x1⟩,⟨x2,x3⟩,⟨x4,x5⟩,⟨x6,x7⟩,⟨x8,x9⟩,⟨kA,nA⟩⟩:=zi.zRL w (.slice a0 W.zRQ.n c0) v1 (.int .i64 W.time) (.int .i64 W.next) (.slice a' W.sn c') (.slice a W.pn c) 37;go_wp2;clear x0 x1 x2 x3 x4 x5 x6 x7 x8 x9 kA nA ha
 go_loopw [4,5] (fun vr i wr=>∃k:Nat,k<=W.sn/\i = .int .i64 k/\zw wr (w.heap.size+2) vr (zB4 W k)/\zi wr w.heap.size (.slice a0 W.zRQ.n c0) v1 (.int .i64 W.time) (.int .i64 W.next) (.slice a' W.sn c') (.slice a W.pn c)/\yd wr (w.heap.size+1) W.zRQ.n (fun _=>false)/\Below w.heap.size w wr) (fun _ i _=>W.sn - (intOf i).toNat)
 case atStart=>
  obtain⟨s1,s2,s3,s4⟩:=vB.out;exact⟨0,Nat.zero_le _,rfl,s3,s1,s2,s4⟩
 case round=>
  clear vB kB;obtain⟨k,hk,rfl,dA,hX,hR,hb⟩:=hrel;have aA:=zB dA;have HX:=zB hX;have eA:=zB hR;clear dA hX hR;obtain⟨⟨x0,x1⟩,⟨x2,x3⟩,⟨x4,x5⟩,⟨x6,x7⟩,⟨x8,x9⟩,⟨kA,nA⟩⟩:=HX.out;by_cases mA:k<W.sn
  ·have vA:(k:Int)<(W.sn:Int):=(by omega);obtain⟨b,off,vd,rfl,jA⟩:=(Hp.out.zRS.zRJ hb).cells mA;have q3:=jA.c3;have q4:=jA.c4;clear jA;have gA:=zC wr (.cells #[.int .i64 (W.zRS k).rs,.int .i64 (W.zRS k).rb] 61);have cA:=zB (aA.out.zRJ gA);have sA:=zB (HX.out.zRJ gA);have rA:=zB (eA.out.zRJ gA);have bB:=zA hb gA;have dB:=zD kA;have gC:=(eA.out);have nC:(wr.alloc (.cells #[.int .i64 (W.zRS k).rs,.int .i64 (W.zRS k).rb] 61)).heap.size=wr.heap.size+1:=World.size_alloc _ _;have HN:=zB (World.news_of_block (heap_alloc_last wr (.cells #[.int .i64 (W.zRS k).rs,.int .i64 (W.zRS k).rb] 61)));have pA:=zBj W k;clear gA aA HX eA gC;go_wp2_with (first
    | (at_builtin;refine wpList_append_lies _ rfl _ _ 62 rfl (w.heap.size+2) 61 i0 (.agg #[.int .i64 0,.int .i64 0]) 2 16 (by kernel_rfl) HI.out.1 HI.out.2.1 HI.out.2.2.1 HI.out.2.2.2 rfl (by decide) _ _ _ rfl cA.out ⟨wr.heap.size,0,none⟩ 1 1 [.int .i64 (W.zRS k).rs,.int .i64 (W.zRS k).rb] rfl rfl HN.out (by simp[Value.oneCell']) (by decide) (by unfold maxLen;omega) (by omega) (by omega) _ rfl ?_;intro g' lB w8 iA bA iB oB)
    | go_in)
   go_roundw
   case rel=>
    have oA:∀q,Value.ownBlock _=some q->w.heap.size+2<=q:=fun q hq=>(cA.out.lt hq).1
    refine⟨k+1,by omega,by go_num,?_,sA.out.grown bA (fun q hq=>by have:=oA q hq;omega),rA.out.grown bA (fun q hq=>by have:=oA q hq;omega),bB.grown bA bB.size (fun q hq=>by have:=oA q hq;omega)⟩;rw[zGp,zEh mA];have aB:=zw.next iA;rw[pA]at aB;exact aB
   case measure=>simp[intOf];omega
  ·obtain rfl:k=W.sn:=(by omega);go_wp2
   go_loopw [4,6] (fun vr i wr=>∃k:Nat,k<=W.pn/\i = .int .i64 k/\zw wr (w.heap.size+2) vr (zB4 W (W.sn+k))/\zi wr w.heap.size (.slice a0 W.zRQ.n c0) v1 (.int .i64 W.time) (.int .i64 W.next) (.slice a' W.sn c') (.slice a W.pn c)/\yd wr (w.heap.size+1) W.zRQ.n (fun _=>false)/\Below w.heap.size w wr) (fun _ i _=>W.pn - (intOf i).toNat)
   case atStart=>exact⟨0,Nat.zero_le _,rfl,aA.out,HX.out,eA.out,hb⟩
   case round=>
    clear x0 x1 x2 x3 x4 x5 x6 x7 x8 x9 kA nA HX hb aA eA;obtain⟨k,hk,rfl,dA,hX,hR,hb⟩:=hrel;have aA:=zB dA;have HX:=zB hX;have eA:=zB hR;clear dA hX hR;obtain⟨⟨x0,x1⟩,⟨x2,x3⟩,⟨x4,x5⟩,⟨x6,x7⟩,⟨x8,x9⟩,⟨kA,nA⟩⟩:=HX.out;by_cases mA:k<W.pn
    ·have vA:(k:Int)<(W.pn:Int):=(by omega);obtain⟨b,off,vd,rfl,jA⟩:=(Hp.out.zRP.zRJ hb).cells mA;have q3:=jA.c5;have q4:=jA.c6;clear jA;have gA:=zC wr (.cells #[.int .i64 (W.zRP k).rs,.int .i64 (W.zRP k).rb] 61);have cA:=zB (aA.out.zRJ gA);have sA:=zB (HX.out.zRJ gA);have rA:=zB (eA.out.zRJ gA);have bB:=zA hb gA;have dB:=zD kA;have nC:(wr.alloc (.cells #[.int .i64 (W.zRP k).rs,.int .i64 (W.zRP k).rb] 61)).heap.size=wr.heap.size+1:=World.size_alloc _ _;have HN:=zB (World.news_of_block (heap_alloc_last wr (.cells #[.int .i64 (W.zRP k).rs,.int .i64 (W.zRP k).rb] 61)));have pA:=zBj W (W.sn+k);clear gA aA HX eA;go_wp2_with (first
      | (at_builtin;refine wpList_append_lies _ rfl _ _ 62 rfl (w.heap.size+2) 61 i0 (.agg #[.int .i64 0,.int .i64 0]) 2 16 (by kernel_rfl) HI.out.1 HI.out.2.1 HI.out.2.2.1 HI.out.2.2.2 rfl (by decide) _ _ _ rfl cA.out ⟨wr.heap.size,0,none⟩ 1 1 [.int .i64 (W.zRP k).rs,.int .i64 (W.zRP k).rb] rfl rfl HN.out (by simp[Value.oneCell']) (by decide) (by unfold maxLen;omega) (by omega) (by omega) _ rfl ?_;intro g' lB w8 iA bA iB oB)
      | go_in)
     go_roundw
     case rel=>
      have oA:∀q,Value.ownBlock _=some q->w.heap.size+2<=q:=fun q hq=>(cA.out.lt hq).1
      refine⟨k+1,by omega,by go_num,?_,sA.out.grown bA (fun q hq=>by have:=oA q hq;omega),rA.out.grown bA (fun q hq=>by have:=oA q hq;omega),bB.grown bA bB.size (fun q hq=>by have:=oA q hq;omega)⟩;rw[show W.sn+(k+1)=W.sn+k+1 from rfl,zGp,zDm];have aB:=zw.next iA;rw[pA]at aB;exact aB
     case measure=>simp[intOf];omega
    ·obtain rfl:k=W.pn:=(by omega);go_wp2;obtain⟨ar,cr,rfl,bD⟩:=zW aA.out;rw[zBj]at *;clear x0 x1 x2 x3 x4 x5 x6 x7 x8 x9 kA nA
     go_loopw [7] (fun i wr=>∃k:Nat,∃f,k<=W.sn+W.pn/\i = .int .i64 k/\zw wr (w.heap.size+2) (.slice ar (W.sn+W.pn) cr) (zB4 W (W.sn+W.pn))/\zi wr w.heap.size (.slice a0 W.zRQ.n c0) v1 (.int .i64 W.time) (.int .i64 W.next) (.slice a' W.sn c') (.slice a W.pn c)/\yd wr (w.heap.size+1) W.zRQ.n f/\zD0 W k [] 0 f/\Below w.heap.size w wr) (fun i _=>W.sn+W.pn - (intOf i).toNat)
     case atStart=>exact⟨0,fun _=>false,Nat.zero_le _,rfl,aA.out,HX.out,eA.out,fun s=>⟨fun h=>absurd h (by simp),fun h=>by rcases h with⟨i,hi,_⟩ | ⟨q,hq,_⟩<;>omega⟩,hb⟩
     case round=>
      clear HX hb aA eA;obtain⟨k,f,hk,rfl,dA,hX,hR,hm,hb⟩:=hrel;have aA:=zB dA;have HX:=zB hX;have eA:=zB hR;have Hm:=zB hm;clear dA hX hR hm;by_cases mA:k<W.sn+W.pn
      ·have vA:(k:Int)<(W.sn+W.pn:Int):=(by omega);have eC:=zPw HT.out mA;have fB:=zN4 (W:=W) mA;have fA:=(aA.out.atW (by rw[zBj];omega));rw[zBj]at fA;obtain⟨b,off,rfl,q0,q1⟩:=fA.zRN mA;rw[fB.1]at q0;rw[fB.2]at q1;have eB:=zB eC;clear eC fB;generalize aC:(zBZ W k).1=rs at *;generalize tB:(zBZ W k).2=rb at *;have gB:=zB (And.intro aC tB);clear aC tB fA;obtain⟨⟨x0,x1⟩,⟨x2,x3⟩,⟨x4,x5⟩,⟨x6,x7⟩,⟨x8,x9⟩,⟨kA,nA⟩⟩:=HX.out;clear x1 x3 x4 x5 x6 x7 x8 x9 kA nA;go_wp2_with fail;go_region_held3 (fun w'=>w'.cell? ⟨w.heap.size,0,none⟩=some (.slice a0 W.zRQ.n c0)/\w'.cell? ⟨w.heap.size,1,none⟩=some v1/\w'.cell? ⟨b,off+k*2,none⟩=some (.int .i64 rs)/\w'.cell? ⟨b,off+k*2+1,none⟩=some (.int .i64 rb)) (go_keep)
        (first | (go_at_call 141;refine(yg _ v1 lo hi W.zRQ rs rb _ ?_ HT.out.right eB.out).mono ?_;(exact(Hp.out.zRQ.zRJ hb).zRJ (Below.refl _ _).drew);rintro e w6 ⟨vl,rfl,dC,lA⟩;obtain⟨⟨y0,_⟩,⟨y1,_⟩,_⟩:=HX.out.zRJ (zK lA);have z0:=(lA.cell (p:=⟨b,off+k*2,none⟩) (zD q0)).trans q0;have z1:=(lA.cell (p:=⟨b,off+k*2+1,none⟩) (zD q1)).trans q1))
       have cB:=qi hb lA;have sA:=zB (HX.out.zRJ (zK lA));have rA:=zB (eA.out.zRJ (zK lA));have cA:=zB (aA.out.zRJ (zK lA));have jB:0<W.zRQ.n->w.heap.size+1<wr.heap.size:=fun h0=>(eA.out 0 h0).lt
       have Hl:=zB dC;clear lA dC z0 z1 y0 y1 q0 q1 x0 x2 HX eA aA;have sB:wr.drew.heap.size=wr.heap.size:=rfl;rw[sB]at Hl;obtain⟨al,cl,rfl,sC⟩:=zW Hl.out;have tC:=qP W.zRQ rs rb;have lC:=zB (fun j (hj:j<(zR W.zRQ rs rb).length)=>zHe HT.out.right eB.out hj);have HE:=zB (show zR W.zRQ rs rb=zR W.zRQ (zBZ W k).1 (zBZ W k).2 by rw[gB.out.1,gB.out.2]);generalize zR W.zRQ rs rb=l at *;clear gB eB sB;go_wp2
       go_loopw [9] (fun i tA=>∃j:Nat,∃f,j<=l.length/\i = .int .i64 j/\zw tA wr.heap.size (.slice al l.length cl) l/\zw tA (w.heap.size+2) (.slice (some ⟨b,off,none⟩) (W.sn+W.pn) cr) (zB4 W (W.sn+W.pn))/\zi tA w.heap.size (.slice a0 W.zRQ.n c0) v1 (.int .i64 W.time) (.int .i64 W.next) (.slice a' W.sn c') (.slice a W.pn c)/\yd tA (w.heap.size+1) W.zRQ.n f/\zD0 W k l j f/\Below w.heap.size w tA) (fun i _=>l.length - (intOf i).toNat)
       case atStart=>exact⟨0,f,Nat.zero_le _,rfl,Hl.out,cA.out,sA.out,rA.out,zLG Hm.out l,cB⟩
       case round=>
        clear sA rA cA Hl cB Hm f;obtain⟨j,f,hj,rfl,pB,dA,hX,hR,hm,cB⟩:=hrel;have Hl:=zB pB;have aA:=zB dA;have HX:=zB hX;have eA:=zB hR;have Hm:=zB hm;clear dA hX hR hm pB;by_cases bC:j<l.length
        ·have fC:(j:Int)<(l.length:Int):=(by omega);obtain⟨b2,jC,rfl,q0,q1⟩:=(Hl.out.atW (by omega)).zRN bC;obtain⟨s,mB,jA⟩:=lC.out j bC;have aD:(s:Int)<(W.zRQ.n:Int):=(by omega);rw[mB]at q0;obtain⟨y0,y1⟩:=eA.out s jA;have iC:=zB mB;clear mB q1;go_wp2;go_roundw
         case rel=>exact⟨j+1,_,by omega,by go_num,Hl.out.put (jB (by omega)) _,aA.out.put (by omega) _,HX.out.zRR (zF.put _ (w.heap.size+1) s _) (by omega),eA.out.put true,zM8 Hm.out iC.out,cB.setCell (show w.heap.size<=w.heap.size+1 by omega) _⟩
         case measure=>simp[intOf];omega
        ·obtain rfl:j=l.length:=(by omega);go_wp2;go_roundw
         case rel=>exact⟨k+1,f,by omega,by go_num,aA.out,HX.out,eA.out,zMQ Hm.out HE.out,cB⟩
         case measure=>simp[intOf];omega
      ·obtain rfl:k=W.sn+W.pn:=(by omega);go_wp2;go_ret;refine⟨_,f,rfl,by omega,eA.out,fun s=>?_,hb⟩;rw[Hm.out s,zM0];constructor
       ·rintro(h | ⟨q,hq,_⟩)
        ·exact h
        ·omega
       ·exact Or.inl
def zKG(W:zH)(k:Nat):Prop:=∀i,i<k->∀j,j<i->∀x,x∈zFB W (zO W i)->∀y,y∈zFB W (zO W j)->x.1≠y.1
def zCf(W:zH)(k:Nat)(now old:List (Int×Int))(j:Nat):Prop:=∀q,q<j->(zf now q,zh now q)∉old->∀i,i<k->∀y,y∈zFB W (zO W i)->zf now q≠y.1
def zQz(W:zH)(k:Nat)(now old:List (Int×Int))(j s:Nat):Prop:=(∃i,i<k/\∃b,((s:Int),b)∈zFB W (zO W i))\/∃q,q<j/\zf now q=(s:Int)/\(zf now q,zh now q)∉old
def zBl(W:zH)(k:Nat)(now old:List (Int×Int))(j:Nat)(f:Nat->Bool):Prop:=∀s,f s=true↔zQz W k now old j s
theorem zIE{W:zH}{k:Nat}{aA bA:List (Int×Int)}(h:zKG W k)(hn:aA=yU W (zO W k))(ho:bA=zCr W (zO W k))(hr:zCf W k aA bA aA.length):zKG W (k+1):=by
 intro i hi j hj x hx y hy;by_cases e:i=k
 ·subst e;obtain⟨h1,h2⟩:=List.mem_filter.1 hx;rw[<-hn]at h1;rw[<-ho]at h2;obtain⟨q,hq,e⟩:=List.getElem_of_mem h1;have:=hr q hq;unfold zf zh at this;rw[yE hq,e]at this;exact this (by simpa using h2) j hj y hy
 ·exact h i (by omega) j hj x hx y hy
theorem zJb{W:zH}{k j:Nat}{aA bA:List (Int×Int)}{f:Nat->Bool}(h:zBl W k aA bA j f)(cA:(zf aA j,zh aA j)∈bA):zBl W k aA bA (j+1) f:=by
 intro s;rw[h s];constructor
 ·rintro(h | ⟨q,hq,h⟩)
  ·exact Or.inl h
  ·exact Or.inr ⟨q,by omega,h⟩
 ·rintro(h | ⟨q,hq,h1,h2⟩)
  ·exact Or.inl h
  ·by_cases e:q=j
   ·subst e;exact absurd cA h2
   ·exact Or.inr ⟨q,by omega,h1,h2⟩
theorem zJA{W:zH}{k j s:Nat}{aA bA:List (Int×Int)}{f:Nat->Bool}(h:zBl W k aA bA j f)(hs:zf aA j=(s:Int))(cA:(zf aA j,zh aA j)∉bA):zBl W k aA bA (j+1) (fun i=>if i=s then true else f i):=by
 intro i;show(if i=s then true else f i)=true↔_;by_cases e:i=s
 ·subst e;rw[if_pos rfl];exact⟨fun _=>Or.inr ⟨j,by omega,hs,cA⟩,fun _=>rfl⟩
 ·rw[if_neg e,h i];constructor
  ·rintro(h | ⟨q,hq,h⟩)
   ·exact Or.inl h
   ·exact Or.inr ⟨q,by omega,h⟩
  ·rintro(h | ⟨q,hq,h,h2⟩)
   ·exact Or.inl h
   ·by_cases eq:q=j
    ·subst eq;exact absurd (by omega) e
    ·exact Or.inr ⟨q,by omega,h,h2⟩
theorem zLx{W:zH}{k j:Nat}{aA bA:List (Int×Int)}(h:zCf W k aA bA j)(cA:(zf aA j,zh aA j)∈bA):zCf W k aA bA (j+1):=by
 intro q hq;by_cases e:q=j
 ·subst e;exact fun h=>absurd cA h
 ·exact h q (by omega)
theorem zK5{W:zH}{k j s:Nat}{aA bA:List (Int×Int)}{f:Nat->Bool}(h:zCf W k aA bA j)(hS:zBl W k aA bA j f)(hs:zf aA j=(s:Int))(hf:f s=false):zCf W k aA bA (j+1):=by
 intro q hq;by_cases e:q=j
 ·subst e;intro _ i hi y hy ey;have:f s=true:=(hS s).2 (Or.inl ⟨i,hi,y.2,by rw[<-hs,ey];exact hy⟩);rw[hf]at this;exact absurd this (by simp)
 ·exact h q (by omega)
theorem zJN{W:zH}{k:Nat}{aA bA:List (Int×Int)}{f:Nat->Bool}(h:zBl W k aA bA aA.length f)(hn:aA=yU W (zO W k))(ho:bA=zCr W (zO W k)):zBl W (k+1) [] [] 0 f:=by
 intro s;rw[h s];constructor
 ·rintro(⟨i,hi,h⟩ | ⟨q,hq,e,h2⟩)
  ·exact Or.inl ⟨i,by omega,h⟩
  ·refine Or.inl ⟨k,by omega,(aA[q]).2,?_⟩;unfold zf zh at h2;unfold zf at e;rw[yE hq]at e h2;refine List.mem_filter.2 ⟨?_,?_⟩
   ·rw[<-hn,<-e];exact List.getElem_mem hq
   ·rw[<-ho,<-e];simpa using h2
 ·rintro(⟨i,hi,b,h2⟩ | ⟨q,hq,_⟩)
  ·by_cases e:i=k
   ·subst e;obtain⟨h3,h4⟩:=List.mem_filter.1 h2;rw[<-hn]at h3;rw[<-ho]at h4;obtain⟨q,hq,e⟩:=List.getElem_of_mem h3;refine Or.inr ⟨q,hq,?_⟩;unfold zf zh;rw[yE hq,e];exact⟨rfl,by simpa using h4⟩
   ·exact Or.inl ⟨i,by omega,b,h2⟩
  ·omega
theorem zIS{W:zH}{k:Nat}{f:Nat->Bool}(h:zBl W k [] [] 0 f)(bA aA:List (Int×Int)):zBl W k bA aA 0 f:=by
 intro s;rw[h s];constructor
 ·rintro(h | ⟨q,hq,_⟩)
  ·exact Or.inl h
  ·omega
 ·rintro(h | ⟨q,hq,_⟩)
  ·exact Or.inl h
  ·omega
theorem zIQ{W:zH}{k j s:Nat}{aA bA:List (Int×Int)}{f:Nat->Bool}(hT:zBF W)(hk:k<zq W)(hn:aA=yU W (zO W k))(ho:bA=zCr W (zO W k))(hS:zBl W k aA bA j f)(hj:j<aA.length)(hs:zf aA j=(s:Int))(dA:(zf aA j,zh aA j)∉bA)(hf:f s=true):¬zGf W:=by
 intro hA;rcases(hS s).1 hf with⟨i,hi,b,h⟩ | ⟨q,hq,e,h2⟩
 ·refine hA k hk i hi (zf aA j,zh aA j) ?_ _ h hs;refine List.mem_filter.2 ⟨?_,by rw[<-ho];simpa using dA⟩;rw[<-hn];unfold zf zh;rw[yE hj];exact List.getElem_mem hj
 ·have cA:=zBJ hT.right (l:=aA) (fun x hx=>by rw[hn]at hx;exact(zAX hT.right (hT.tree k hk) hx).1) (by rw[hn];exact zAe hT.right (hT.tree k hk)) (by rw[hn];have:=qP W.zRQ (zO W k).rs (zO W k).rb;unfold yU;omega);exact cA.2.2 j hj q hq (by rw[e,hs])
theorem zKi(v0 v1 v2 v3:Value)(lo hi:Nat)(W:zH)(w:World)(h:zl w lo hi v0 v1 v2 v3 W)(hT:zBF W)(hP:zCc W)(hs:W.sn<=8)(hp:W.pn<=20) :
  Calls Tryz.prog 77 #[zz v0 v1 v2 v3 W] w fun e w'=>zG (zGf W) e/\Below w.heap.size w w':=by
 have Hp:=zB h;have HT:=zB hT;have HP:=zB hP;obtain⟨m1,a,c,rfl,mc,-⟩:=id h.zRP;obtain⟨m2,a',c',rfl,rE,-⟩:=id h.zRS;obtain⟨m0,a0,c0,rfl,nE,-⟩:=id h.zRQ.1;unfold maxLen at m0 m1 m2;have pE:W.zRQ.n<=200:=hT.right.1;clear h hT hP;have mE:=zD9 W.zRQ.n (by omega);have ha:=zC w (.cells #[.slice a0 W.zRQ.n c0,v1,.int .i64 W.time,.int .i64 W.next,.slice a' W.sn c',.slice a W.pn c] 37);have vD:(w.alloc (.cells #[.slice a0 W.zRQ.n c0,v1,.int .i64 W.time,.int .i64 W.next,.slice a' W.sn c',.slice a W.pn c] 37)).heap.size=w.heap.size+1:=World.size_alloc _ _;have bE:∀W1:World,W1=w.alloc (.cells #[.slice a0 W.zRQ.n c0,v1,.int .i64 W.time,.int .i64 W.next,.slice a' W.sn c',.slice a W.pn c] 37)->zi (W1.alloc (.cells (madeCells #[.bool false] W.zRQ.n) 4)) w.heap.size (.slice a0 W.zRQ.n c0) v1 (.int .i64 W.time) (.int .i64 W.next) (.slice a' W.sn c') (.slice a W.pn c)/\yd (W1.alloc (.cells (madeCells #[.bool false] W.zRQ.n) 4)) (w.heap.size+1) W.zRQ.n (fun _=>false)/\Below w.heap.size w (W1.alloc (.cells (madeCells #[.bool false] W.zRQ.n) 4))/\w.heap.size+2<=(W1.alloc (.cells (madeCells #[.bool false] W.zRQ.n) 4)).heap.size:=by
  rintro W1 rfl;have hB:=zi.zRL w (.slice a0 W.zRQ.n c0) v1 (.int .i64 W.time) (.int .i64 W.next) (.slice a' W.sn c') (.slice a W.pn c) 37;have hR:=yd.zRL (w.alloc (.cells #[.slice a0 W.zRQ.n c0,v1,.int .i64 W.time,.int .i64 W.next,.slice a' W.sn c',.slice a W.pn c] 37)) W.zRQ.n 4;rw[vD]at hR;generalize w.alloc (.cells #[.slice a0 W.zRQ.n c0,v1,.int .i64 W.time,.int .i64 W.next,.slice a' W.sn c',.slice a W.pn c] 37)=W1 at *;have b2:=zC W1 (.cells (madeCells #[.bool false] W.zRQ.n) 4);exact⟨hB.zRJ b2,hR,zA ha b2,by rw[World.size_alloc,vD];omega⟩
 have aE:=zB (bE _ rfl);clear bE;go_enter Tryz.func77,Tryz.ntmps77;obtain⟨⟨x0,x1⟩,⟨x2,x3⟩,⟨x4,x5⟩,⟨x6,x7⟩,⟨x8,x9⟩,⟨nA,mA⟩⟩:=zi.zRL w (.slice a0 W.zRQ.n c0) v1 (.int .i64 W.time) (.int .i64 W.next) (.slice a' W.sn c') (.slice a W.pn c) 37;go_wp2;clear x0 x1 x2 x3 x4 x5 x6 x7 x8 x9 nA mA ha
 go_loopw [4] (fun i wr=>∃k:Nat,∃f,k<=W.pn+W.sn/\i = .int .i64 k/\zi wr w.heap.size (.slice a0 W.zRQ.n c0) v1 (.int .i64 W.time) (.int .i64 W.next) (.slice a' W.sn c') (.slice a W.pn c)/\yd wr (w.heap.size+1) W.zRQ.n f/\zBl W k [] [] 0 f/\zKG W k/\Below w.heap.size w wr/\w.heap.size+2<=wr.heap.size) (fun i _=>W.pn+W.sn - (intOf i).toNat)
 case atStart=>
  obtain⟨s1,s2,s3,s4⟩:=aE.out;exact⟨0,fun _=>false,Nat.zero_le _,rfl,s1,s2,fun s=>⟨fun h=>absurd h (by simp),fun h=>by rcases h with⟨i,hi,_⟩ | ⟨q,hq,_⟩<;>omega⟩,fun i hi=>absurd hi (Nat.not_lt_zero _),s3,s4⟩
 case round=>
  clear aE vD;obtain⟨k,f,hk,rfl,hX,hR,hS,hA,hb,hz⟩:=hrel;have HX:=zB hX;have eA:=zB hR;have HS:=zB hS;have HA:=zB hA;clear hX hR hS hA;obtain⟨⟨x0,x1⟩,⟨x2,x3⟩,⟨x4,x5⟩,⟨x6,x7⟩,⟨x8,x9⟩,⟨nA,mA⟩⟩:=HX.out;by_cases oE:k<W.pn+W.sn
  ·have iE:(k:Int)<(W.pn+W.sn:Int):=(by omega);by_cases cE:k<W.pn
   ·have kD:(k:Int)<(W.pn:Int):=(by omega);obtain⟨b,off,vd,rfl,jB⟩:=(Hp.out.zRP.zRJ hb).cells cE;have q3:=jB.c3;have q5:=jB.c5;have q6:=jB.c6;have Hm:=zB (show(zO W k).zRT=(W.zRP k).zRT/\(zO W k).rs=(W.zRP k).rs/\(zO W k).rb=(W.zRP k).rb from by rw[qS cE];exact⟨rfl,rfl,rfl⟩);clear jB;have cA:=zC wr (.cells #[.int .i64 0,.int .i64 0] 61);have kC:=zB (HX.out.zRJ cA);have oC:=zB (zc.zRL wr (.int .i64 0) (.int .i64 0) 61);have mD:=zB (eA.out.zRJ cA);have r3:=(cA.cell (zD q3)).trans q3;have r5:=(cA.cell (zD q5)).trans q5;have r6:=(cA.cell (zD q6)).trans q6;have oD:=zA hb cA;have sD:(wr.alloc (.cells #[.int .i64 0,.int .i64 0] 61)).heap.size=wr.heap.size+1:=World.size_alloc _ _;have lD:b<wr.heap.size:=zD q3;have tB:w.heap.size≠wr.heap.size:=(by omega);have oB:b≠wr.heap.size:=(by omega);obtain⟨⟨y0,y1⟩,⟨y2,y3⟩,⟨y4,y5⟩,⟨y6,y7⟩,⟨y8,y9⟩,⟨fD,jD⟩⟩:=kC.out;obtain⟨⟨p0,p1⟩,⟨p2,p3⟩⟩:=oC.out;generalize nC:(W.zRP k).zRT=x at *;generalize rA:(W.zRP k).rs=rs at *;generalize tA:(W.zRP k).rb=rb at *;have rD:=zB (And.intro nC (And.intro rA tA));clear nC rA tA;have dB:=zC wr (.cells #[.int .i64 rs,.int .i64 rb] 61);have iB:=zB (HX.out.zRJ dB);have sB:=zB (zc.zRL wr (.int .i64 rs) (.int .i64 rb) 61);have rB:=zB (eA.out.zRJ dB);have gB:=zA hb dB;obtain⟨⟨z0,z1⟩,⟨z2,z3⟩,⟨z4,z5⟩,⟨z6,z7⟩,⟨z8,z9⟩,⟨nD,iD⟩⟩:=iB.out;go_wp2_with fail;clear x0 x1 x2 x3 x4 x5 x6 x7 x8 x9 nA mA y0 y1 y2 y3 y4 y5 y6 y7 y8 y9 fD jD z0 z1 z2 z3 z4 z5 z6 z7 z8 z9 nD iD p0 p1 p2 p3 r3 r5 r6 q3 q5 q6 kC oC mD oD cA sD tB oB lD dB;have dD:w.heap.size+2<=(wr.alloc (.cells #[.int .i64 rs,.int .i64 rb] 61)).heap.size:=(by rw[World.size_alloc];omega);generalize wr.alloc (.cells #[.int .i64 rs,.int .i64 rb] 61)=W3 at iB sB rB gB dD ⊢;refine(zAj _ v1 _ _ lo hi W x W3 (Hp.out.zRJ gB)).mono ?_;rintro e w1 ⟨s,bb,t,rfl,hF,iA⟩;have hq:=zFb HP.out hF;have jC:=zB (show qG W.zRQ s bb by rw[hq.1,hq.2.1];exact HT.out.old x);have lB:=zB (show qG W.zRQ rs rb by have:=HT.out.tree k (by unfold zq;omega);rw[Hm.out.2.1,Hm.out.2.2]at this;exact this);have HE:=zB (show zR W.zRQ rs rb=yU W (zO W k)/\zR W.zRQ s bb=zCr W (zO W k)by unfold yU zCr;rw[Hm.out.1,Hm.out.2.1,Hm.out.2.2,hq.1,hq.2.1];exact⟨rfl,rfl⟩);have fA:=zC w1 (.cells #[.int .i64 s,.int .i64 bb] 61);have fB:=zB ((iB.out.zRJ iA).zRJ fA);have mB:=zB ((sB.out.zRJ iA).zRJ fA);have gC:=zB ((rB.out.zRJ iA).zRJ fA);have dC:=zB (zc.zRL w1 (.int .i64 s) (.int .i64 bb) 61);have kB:=zA (zA gB iA) fA;have iC:w.heap.size+2<=(w1.alloc (.cells #[.int .i64 s,.int .i64 bb] 61)).heap.size:=(by have h1:=iA.size;have h2:=fA.size;omega);clear hq hF iA fA iB sB rB gB dD rD Hm;obtain⟨⟨x0,x1⟩,⟨x2,x3⟩,⟨x4,x5⟩,⟨x6,x7⟩,⟨x8,x9⟩,⟨nA,mA⟩⟩:=fB.out;obtain⟨⟨p0,p1⟩,⟨p2,p3⟩⟩:=dC.out;clear x4 x5 x6 x7 x8 x9 nA mA x1 x3 p1 p3;go_wp2_with fail;clear x0 x2 p0 p2;generalize w1.alloc (.cells #[.int .i64 s,.int .i64 bb] 61)=w4 at fB mB gC dC kB iC ⊢;refine(yg _ v1 lo hi W.zRQ s bb w4 (Hp.out.zRQ.zRJ kB) HT.out.right jC.out).mono ?_;rintro e w5 ⟨vo,rfl,sA,jA⟩;have nB:=zB (fB.out.zRJ jA);have eD:=zB (mB.out.zRJ jA);have vC:=zB (gC.out.zRJ jA);have gA:=zB (sA.mono iC);have cC:=zA kB jA;have sC:w.heap.size+2<=w5.heap.size:=(by have h1:=jA.size;omega);clear sA jA fB mB gC dC kB iC jC;obtain⟨⟨x0,x1⟩,⟨x2,x3⟩,⟨x4,x5⟩,⟨x6,x7⟩,⟨x8,x9⟩,⟨nA,mA⟩⟩:=nB.out;obtain⟨⟨p0,p1⟩,⟨p2,p3⟩⟩:=eD.out;clear x4 x5 x6 x7 x8 x9 nA mA x1 x3 p1 p3;go_wp2_with fail;clear x0 x2 p0 p2;refine(yg _ v1 lo hi W.zRQ rs rb w5 (Hp.out.zRQ.zRJ cC) HT.out.right lB.out).mono ?_;rintro e w6 ⟨vn,rfl,bB,lA⟩;have pC:=zB (nB.out.zRJ lA);have mC:=zB (vC.out.zRJ lA);have oA:=zB (gA.out.zRJ lA);have bA:=zB (bB.mono sC);have rC:=zA cC lA;have aD:w.heap.size+2<=w6.heap.size:=(by have h1:=lA.size;omega);have gD:=zB (fun j (hj:j<(zR W.zRQ rs rb).length)=>zHe HT.out.right lB.out hj);have kE:=qP W.zRQ rs rb;have fE:=qP W.zRQ s bb;clear bB lA nB eD vC gA cC sC lB;obtain⟨an,cn,rfl,eE⟩:=zW bA.out;generalize zR W.zRQ rs rb=now at *;generalize zR W.zRQ s bb=old at *;go_wp2
    go_loopw [11] (fun i kA=>∃j:Nat,∃f,j<=now.length/\i = .int .i64 j/\zw kA (w.heap.size+2) vo old/\zw kA (w.heap.size+2) (.slice an now.length cn) now/\zi kA w.heap.size (.slice a0 W.zRQ.n c0) v1 (.int .i64 W.time) (.int .i64 W.next) (.slice a' W.sn c') (.slice (some ⟨b,off,none⟩) W.pn c)/\yd kA (w.heap.size+1) W.zRQ.n f/\zBl W k now old j f/\zCf W k now old j/\Below w.heap.size w kA/\w.heap.size+2<=kA.heap.size) (fun i _=>now.length - (intOf i).toNat)
    case atStart=>exact⟨0,f,Nat.zero_le _,rfl,oA.out,bA.out,pC.out,mC.out,zIS HS.out _ _,fun q hq=>absurd hq (Nat.not_lt_zero _),rC,aD⟩
    case round=>
     clear pC mC oA bA rC aD HS HX eA hb hz;obtain⟨j,f,hj,rfl,sA,bB,hX,hR,hS,tC,hb,hz⟩:=hrel;have gA:=zB sA;have vB:=zB bB;have HX:=zB hX;have eA:=zB hR;have HS:=zB hS;have eC:=zB tC;clear sA bB hX hR hS tC;by_cases bC:j<now.length
     ·have tD:(j:Int)<(now.length:Int):=(by omega);obtain⟨b2,pB,rfl,q0,q1⟩:=(vB.out.atW (by omega)).zRN bC;obtain⟨sl,bD,pD⟩:=gD.out j bC;have lE:(sl:Int)<(W.zRQ.n:Int):=(by omega);have eB:=zB bD;clear bD;go_wp2_with fail;refine(zDN _ old.length 0 _ (zf old) (zh old) (zf now j) (zh now j) _ (gA.out.atW (by omega))).mono ?_;rintro e w7 ⟨⟨t7,rfl,cD⟩,aA⟩;have cB:=zB (cD.trans zBS);have z0:=(aA.cell (p:=⟨b2,pB+j*2,none⟩) (zD q0)).trans q0;have pA:=zB (gA.out.zRJ aA);have aB:=zB (vB.out.zRJ aA);have lC:=zB (HX.out.zRJ aA);have aC:=zB (eA.out.zRJ aA);have dA:=zA hb aA;have vA:w.heap.size+2<=w7.heap.size:=(by have h1:=aA.size;omega);clear cD aA q0 q1 gA vB HX eA hb hz;cases t7
      ·have Hn:=zB (show(zf now j,zh now j)∉old from fun h=>absurd (cB.out.2 h) (by simp));clear cB;rw[eB.out]at z0;obtain⟨y0,y1⟩:=aC.out sl pD;cases hfs:f sl
       ·have fC:=zB hfs;rw[hfs]at y0;clear hfs;go_wp2;go_roundw
        case rel=>exact⟨j+1,_,by omega,by go_num,pA.out.put (by omega) _,aB.out.put (by omega) _,lC.out.zRR (zF.put _ (w.heap.size+1) sl _) (by omega),aC.out.put true,zJA HS.out eB.out Hn.out,zK5 eC.out HS.out eB.out fC.out,dA.setCell (show w.heap.size<=w.heap.size+1 by omega) _,by rw[World.size_setCell];exact vA⟩
        case measure=>simp[intOf];omega
       ·have fC:=zB hfs;rw[hfs]at y0;clear hfs;go_wp2;go_ret;exact⟨zG.no (zIQ HT.out (by unfold zq;omega) HE.out.1 HE.out.2 HS.out bC eB.out Hn.out fC.out),dA⟩
      ·have Hn:=zB (cB.out.1 rfl);clear cB;go_wp2;go_roundw
       case rel=>exact⟨j+1,f,by omega,by go_num,pA.out,aB.out,lC.out,aC.out,zJb HS.out Hn.out,zLx eC.out Hn.out,dA,vA⟩
       case measure=>simp[intOf];omega
     ·obtain rfl:j=now.length:=(by omega);go_wp2;go_roundw
      case rel=>exact⟨k+1,f,by omega,by go_num,HX.out,eA.out,zJN HS.out HE.out.1 HE.out.2,zIE HA.out HE.out.1 HE.out.2 eC.out,hb,hz⟩
      case measure=>simp[intOf];omega
   ·have kD:¬(k:Int)<(W.pn:Int):=(by omega);have dE:k - W.pn<W.sn:=(by omega);have gE:(k:Int) - (W.pn:Int)=((k - W.pn:Nat):Int):=(Int.ofNat_sub (by omega)).symm;have jE:((k - W.pn:Nat):Int)<(W.sn:Int):=Int.ofNat_lt.2 dE;obtain⟨b,off,vd,rfl,jB⟩:=(Hp.out.zRS.zRJ hb).cells dE;have q3:=jB.c2;have q5:=jB.c3;have q6:=jB.c4;have Hm:=zB (show(zO W k).zRT=(W.zRS (k - W.pn)).zRT/\(zO W k).rs=(W.zRS (k - W.pn)).rs/\(zO W k).rb=(W.zRS (k - W.pn)).rb from by have e:=yH W (k - W.pn);rw[show W.pn+(k - W.pn)=k by omega]at e;rw[e];exact⟨rfl,rfl,rfl⟩);clear jB;have cA:=zC wr (.cells #[.int .i64 0,.int .i64 0] 61);have kC:=zB (HX.out.zRJ cA);have oC:=zB (zc.zRL wr (.int .i64 0) (.int .i64 0) 61);have mD:=zB (eA.out.zRJ cA);have r3:=(cA.cell (zD q3)).trans q3;have r5:=(cA.cell (zD q5)).trans q5;have r6:=(cA.cell (zD q6)).trans q6;have oD:=zA hb cA;have sD:(wr.alloc (.cells #[.int .i64 0,.int .i64 0] 61)).heap.size=wr.heap.size+1:=World.size_alloc _ _;have lD:b<wr.heap.size:=zD q3;have tB:w.heap.size≠wr.heap.size:=(by omega);have oB:b≠wr.heap.size:=(by omega);obtain⟨⟨y0,y1⟩,⟨y2,y3⟩,⟨y4,y5⟩,⟨y6,y7⟩,⟨y8,y9⟩,⟨fD,jD⟩⟩:=kC.out;obtain⟨⟨p0,p1⟩,⟨p2,p3⟩⟩:=oC.out;generalize nC:(W.zRS (k - W.pn)).zRT=x at *;generalize rA:(W.zRS (k - W.pn)).rs=rs at *;generalize tA:(W.zRS (k - W.pn)).rb=rb at *;have rD:=zB (And.intro nC (And.intro rA tA));clear nC rA tA;have dB:=zC wr (.cells #[.int .i64 rs,.int .i64 rb] 61);have iB:=zB (HX.out.zRJ dB);have sB:=zB (zc.zRL wr (.int .i64 rs) (.int .i64 rb) 61);have rB:=zB (eA.out.zRJ dB);have gB:=zA hb dB;obtain⟨⟨z0,z1⟩,⟨z2,z3⟩,⟨z4,z5⟩,⟨z6,z7⟩,⟨z8,z9⟩,⟨nD,iD⟩⟩:=iB.out;go_wp2_with fail;clear x0 x1 x2 x3 x4 x5 x6 x7 x8 x9 nA mA y0 y1 y2 y3 y4 y5 y6 y7 y8 y9 fD jD z0 z1 z2 z3 z4 z5 z6 z7 z8 z9 nD iD p0 p1 p2 p3 r3 r5 r6 q3 q5 q6 kC oC mD oD cA sD tB oB lD dB;have dD:w.heap.size+2<=(wr.alloc (.cells #[.int .i64 rs,.int .i64 rb] 61)).heap.size:=(by rw[World.size_alloc];omega);generalize wr.alloc (.cells #[.int .i64 rs,.int .i64 rb] 61)=W3 at iB sB rB gB dD ⊢;refine(zAj _ v1 _ _ lo hi W x W3 (Hp.out.zRJ gB)).mono ?_;rintro e w1 ⟨s,bb,t,rfl,hF,iA⟩;have hq:=zFb HP.out hF;have jC:=zB (show qG W.zRQ s bb by rw[hq.1,hq.2.1];exact HT.out.old x);have lB:=zB (show qG W.zRQ rs rb by have:=HT.out.tree k (by unfold zq;omega);rw[Hm.out.2.1,Hm.out.2.2]at this;exact this);have HE:=zB (show zR W.zRQ rs rb=yU W (zO W k)/\zR W.zRQ s bb=zCr W (zO W k)by unfold yU zCr;rw[Hm.out.1,Hm.out.2.1,Hm.out.2.2,hq.1,hq.2.1];exact⟨rfl,rfl⟩);have fA:=zC w1 (.cells #[.int .i64 s,.int .i64 bb] 61);have fB:=zB ((iB.out.zRJ iA).zRJ fA);have mB:=zB ((sB.out.zRJ iA).zRJ fA);have gC:=zB ((rB.out.zRJ iA).zRJ fA);have dC:=zB (zc.zRL w1 (.int .i64 s) (.int .i64 bb) 61);have kB:=zA (zA gB iA) fA;have iC:w.heap.size+2<=(w1.alloc (.cells #[.int .i64 s,.int .i64 bb] 61)).heap.size:=(by have h1:=iA.size;have h2:=fA.size;omega);clear hq hF iA fA iB sB rB gB dD rD Hm;obtain⟨⟨x0,x1⟩,⟨x2,x3⟩,⟨x4,x5⟩,⟨x6,x7⟩,⟨x8,x9⟩,⟨nA,mA⟩⟩:=fB.out;obtain⟨⟨p0,p1⟩,⟨p2,p3⟩⟩:=dC.out;clear x4 x5 x6 x7 x8 x9 nA mA x1 x3 p1 p3;go_wp2_with fail;clear x0 x2 p0 p2;generalize w1.alloc (.cells #[.int .i64 s,.int .i64 bb] 61)=w4 at fB mB gC dC kB iC ⊢;refine(yg _ v1 lo hi W.zRQ s bb w4 (Hp.out.zRQ.zRJ kB) HT.out.right jC.out).mono ?_;rintro e w5 ⟨vo,rfl,sA,jA⟩;have nB:=zB (fB.out.zRJ jA);have eD:=zB (mB.out.zRJ jA);have vC:=zB (gC.out.zRJ jA);have gA:=zB (sA.mono iC);have cC:=zA kB jA;have sC:w.heap.size+2<=w5.heap.size:=(by have h1:=jA.size;omega);clear sA jA fB mB gC dC kB iC jC;obtain⟨⟨x0,x1⟩,⟨x2,x3⟩,⟨x4,x5⟩,⟨x6,x7⟩,⟨x8,x9⟩,⟨nA,mA⟩⟩:=nB.out;obtain⟨⟨p0,p1⟩,⟨p2,p3⟩⟩:=eD.out;clear x4 x5 x6 x7 x8 x9 nA mA x1 x3 p1 p3;go_wp2_with fail;clear x0 x2 p0 p2;refine(yg _ v1 lo hi W.zRQ rs rb w5 (Hp.out.zRQ.zRJ cC) HT.out.right lB.out).mono ?_;rintro e w6 ⟨vn,rfl,bB,lA⟩;have pC:=zB (nB.out.zRJ lA);have mC:=zB (vC.out.zRJ lA);have oA:=zB (gA.out.zRJ lA);have bA:=zB (bB.mono sC);have rC:=zA cC lA;have aD:w.heap.size+2<=w6.heap.size:=(by have h1:=lA.size;omega);have gD:=zB (fun j (hj:j<(zR W.zRQ rs rb).length)=>zHe HT.out.right lB.out hj);have kE:=qP W.zRQ rs rb;have fE:=qP W.zRQ s bb;clear bB lA nB eD vC gA cC sC lB;obtain⟨an,cn,rfl,eE⟩:=zW bA.out;generalize zR W.zRQ rs rb=now at *;generalize zR W.zRQ s bb=old at *;go_wp2
    go_loopw [11] (fun i kA=>∃j:Nat,∃f,j<=now.length/\i = .int .i64 j/\zw kA (w.heap.size+2) vo old/\zw kA (w.heap.size+2) (.slice an now.length cn) now/\zi kA w.heap.size (.slice a0 W.zRQ.n c0) v1 (.int .i64 W.time) (.int .i64 W.next) (.slice (some ⟨b,off,none⟩) W.sn c') (.slice a W.pn c)/\yd kA (w.heap.size+1) W.zRQ.n f/\zBl W k now old j f/\zCf W k now old j/\Below w.heap.size w kA/\w.heap.size+2<=kA.heap.size) (fun i _=>now.length - (intOf i).toNat)
    case atStart=>exact⟨0,f,Nat.zero_le _,rfl,oA.out,bA.out,pC.out,mC.out,zIS HS.out _ _,fun q hq=>absurd hq (Nat.not_lt_zero _),rC,aD⟩
    case round=>
     clear pC mC oA bA rC aD HS HX eA hb hz;obtain⟨j,f,hj,rfl,sA,bB,hX,hR,hS,tC,hb,hz⟩:=hrel;have gA:=zB sA;have vB:=zB bB;have HX:=zB hX;have eA:=zB hR;have HS:=zB hS;have eC:=zB tC;clear sA bB hX hR hS tC;by_cases bC:j<now.length
     ·have tD:(j:Int)<(now.length:Int):=(by omega);obtain⟨b2,pB,rfl,q0,q1⟩:=(vB.out.atW (by omega)).zRN bC;obtain⟨sl,bD,pD⟩:=gD.out j bC;have lE:(sl:Int)<(W.zRQ.n:Int):=(by omega);have eB:=zB bD;clear bD;go_wp2_with fail;refine(zDN _ old.length 0 _ (zf old) (zh old) (zf now j) (zh now j) _ (gA.out.atW (by omega))).mono ?_;rintro e w7 ⟨⟨t7,rfl,cD⟩,aA⟩;have cB:=zB (cD.trans zBS);have z0:=(aA.cell (p:=⟨b2,pB+j*2,none⟩) (zD q0)).trans q0;have pA:=zB (gA.out.zRJ aA);have aB:=zB (vB.out.zRJ aA);have lC:=zB (HX.out.zRJ aA);have aC:=zB (eA.out.zRJ aA);have dA:=zA hb aA;have vA:w.heap.size+2<=w7.heap.size:=(by have h1:=aA.size;omega);clear cD aA q0 q1 gA vB HX eA hb hz;cases t7
      ·have Hn:=zB (show(zf now j,zh now j)∉old from fun h=>absurd (cB.out.2 h) (by simp));clear cB;rw[eB.out]at z0;obtain⟨y0,y1⟩:=aC.out sl pD;cases hfs:f sl
       ·have fC:=zB hfs;rw[hfs]at y0;clear hfs;go_wp2;go_roundw
        case rel=>exact⟨j+1,_,by omega,by go_num,pA.out.put (by omega) _,aB.out.put (by omega) _,lC.out.zRR (zF.put _ (w.heap.size+1) sl _) (by omega),aC.out.put true,zJA HS.out eB.out Hn.out,zK5 eC.out HS.out eB.out fC.out,dA.setCell (show w.heap.size<=w.heap.size+1 by omega) _,by rw[World.size_setCell];exact vA⟩
        case measure=>simp[intOf];omega
       ·have fC:=zB hfs;rw[hfs]at y0;clear hfs;go_wp2;go_ret;exact⟨zG.no (zIQ HT.out (by unfold zq;omega) HE.out.1 HE.out.2 HS.out bC eB.out Hn.out fC.out),dA⟩
      ·have Hn:=zB (cB.out.1 rfl);clear cB;go_wp2;go_roundw
       case rel=>exact⟨j+1,f,by omega,by go_num,pA.out,aB.out,lC.out,aC.out,zJb HS.out Hn.out,zLx eC.out Hn.out,dA,vA⟩
       case measure=>simp[intOf];omega
     ·obtain rfl:j=now.length:=(by omega);go_wp2;go_roundw
      case rel=>exact⟨k+1,f,by omega,by go_num,HX.out,eA.out,zJN HS.out HE.out.1 HE.out.2,zIE HA.out HE.out.1 HE.out.2 eC.out,hb,hz⟩
      case measure=>simp[intOf];omega
  ·obtain rfl:k=W.pn+W.sn:=(by omega);go_wp2;go_ret;exact⟨zG.yes HA.out,hb⟩
def qs(W:zH)(x:Int):Prop:=∃k,k<W.pn/\(W.zRP k).id=x
def zAR(W:zH)(x:ByteArray):Prop:=∃k,k<W.sn/\(W.zRS k).name=x
def zE0(W:zH)(i:Nat):Prop:=yM (W.zRS i).name/\(0<i->zDI (W.zRS (i - 1)).name (W.zRS i).name)/\((W.zRS i).zRT≠0->qs W (W.zRS i).zRT)/\((W.zRS i).origin≠0->qs W (W.zRS i).origin)
def zG5(W:zH)(i:Nat):Prop:=1<=(W.zRP i).id/\(W.zRP i).id<W.next/\1<=(W.zRP i).time/\(W.zRP i).time<W.time/\yM (W.zRP i).name/\zAR W (W.zRP i).set
def zF8(W:zH)(i:Nat):Prop:=(0<i->(W.zRP (i - 1)).id<(W.zRP i).id/\(W.zRP (i - 1)).time<(W.zRP i).time)/\((W.zRP i).zRT≠0->(W.zRP i).zRT<(W.zRP i).id/\qs W (W.zRP i).zRT)
def zOi(W:zH)(i j:Nat):Prop:=∀k,k<j->¬((W.zRP k).set=(W.zRP i).set/\(W.zRP k).name=(W.zRP i).name)
def zOv(W:zH)(i:Nat):Prop:=zG5 W i/\zF8 W i/\zOi W i i
def zBK(W:zH):Prop:=zBt W.time 1 900000/\zBt W.next 1 900000/\W.sn<=8/\W.pn<=20/\(∀i,i<W.sn->zE0 W i)/\∀i,i<W.pn->zOv W i
theorem qh{W:zH}{x r:Int}(h:zFm W.pn (fun k=>(W.zRP k).id=x) r):(qs W x/\0<=r/\r<W.pn/\(W.zRP r.toNat).id=x)\/(¬qs W x/\r = -1):=by
 rcases h with⟨k,hk,e,_,rfl⟩ | ⟨hn,rfl⟩
 ·exact Or.inl ⟨⟨k,hk,e⟩,by omega,by omega,by simpa using e⟩
 ·exact Or.inr ⟨fun ⟨k,hk,e⟩=>hn k hk e,rfl⟩
theorem zOA{W:zH}{x:ByteArray}{r:Int}(h:zFm W.sn (fun k=>(W.zRS k).name=x) r):(zAR W x/\0<=r)\/(¬zAR W x/\r = -1):=by
 rcases h with⟨k,hk,e,_,rfl⟩ | ⟨hn,rfl⟩
 ·exact Or.inl ⟨⟨k,hk,e⟩,by omega⟩
 ·exact Or.inr ⟨fun ⟨k,hk,e⟩=>hn k hk e,rfl⟩
def zCH(w:World)(b:Nat)(v0 v1 v2 v3 v4 v5 v6 v7:Value):Prop:=(zX w b 0 v0/\zX w b 1 v1/\zX w b 2 v2/\zX w b 3 v3)/\(zX w b 4 v4/\zX w b 5 v5/\zX w b 6 v6/\zX w b 7 v7)
theorem zCH.zRJ{w w':World}{b:Nat}{v0 v1 v2 v3 v4 v5 v6 v7:Value}(h:zCH w b v0 v1 v2 v3 v4 v5 v6 v7)(t:Below w.heap.size w w'):zCH w' b v0 v1 v2 v3 v4 v5 v6 v7:=
 ⟨⟨h.1.1.zRJ t,h.1.2.1.zRJ t,h.1.2.2.1.zRJ t,h.1.2.2.2.zRJ t⟩,h.2.1.zRJ t,h.2.2.1.zRJ t,h.2.2.2.1.zRJ t,h.2.2.2.2.zRJ t⟩
theorem zCH.zRL(w:World)(v0 v1 v2 v3 v4 v5 v6 v7:Value)(t:TypeId):zCH (w.alloc (.cells #[v0,v1,v2,v3,v4,v5,v6,v7] t)) w.heap.size v0 v1 v2 v3 v4 v5 v6 v7:=by
 have hb:(w.alloc (.cells #[v0,v1,v2,v3,v4,v5,v6,v7] t)).heap[w.heap.size]?=some (.cells #[v0,v1,v2,v3,v4,v5,v6,v7] t):=heap_alloc_new _ _;exact⟨⟨zI hb rfl,zI hb rfl,zI hb rfl,zI hb rfl⟩,zI hb rfl,zI hb rfl,zI hb rfl,zI hb rfl⟩
end Go.Proofs.YtmgeglgboadfiaaGreatDoor
