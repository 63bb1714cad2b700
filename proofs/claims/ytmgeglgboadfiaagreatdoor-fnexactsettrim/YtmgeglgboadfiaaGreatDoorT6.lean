/- What spec.l04BornIn answers. -/
import Derived.Test.YtmgeglgboadfiaaGreatDoorT5
set_option linter.unusedVariables false
set_option maxRecDepth 20000
set_option maxHeartbeats 4000000
namespace Go.Proofs.YtmgeglgboadfiaaGreatDoor
open Go.RowKit Go.Maps
theorem zw.atW{w:World}{base:Nat}{v:Value}{l:List (Int×Int)}(h:zw w base v l)(hm:l.length<=1000):zR w 0 w.heap.size v l.length (zf l) (zh l):=by
 obtain⟨b,h1,h2⟩:=h.own (by unfold maxLen;omega);exact h1.at (fun h0=>⟨Nat.zero_le _,(h2 h0).2.2⟩)
def zQY(now old:List (Int×Int))(t tm:Int)(n:Nat):Prop:=∀i,i<n->zh now i<=tm/\((zf now i,zh now i)∈old↔zh now i<=t)
theorem zKL(aA bA:List (Int×Int))(t tm:Int):zQY aA bA t tm aA.length↔zNU aA bA t tm:=by
 constructor
 ·intro h x hx;obtain⟨j,hj,e⟩:=List.getElem_of_mem hx;have:=h j hj;unfold zf zh at this;rw[yE hj,e]at this;exact this
 ·intro h i hi;have:=h _ (List.getElem_mem hi);unfold zf zh;rw[yE hi];exact this
def zCS(W:zH):Prop:=∀k,k<W.pn->1<=(W.zRP k).id
def zKs(W:zH)(x s b t:Int):Prop:=s=(zN W x).rs/\b=(zN W x).rb/\t=(zN W x).time
theorem zFs{W:zH}{x s b t:Int}(hp:zCS W)(h:zKu W x s b t):zKs W x s b t:=by
 rcases h with⟨k,_,hk,h1,h2,h3⟩ | ⟨hn,h1,h2,h3⟩
 ·unfold zKs;rw[yB hk];exact⟨h1,h2,h3⟩
 ·have e:zN W x=yO:=by
   rcases hn with rfl | hn
   ·exact zFD (fun k hk e=>by have:=hp k hk;omega)
   ·exact zFD hn
  unfold zKs;rw[e];exact⟨h1,h2,h3⟩
theorem zEv(v0 v1 v2 v3:Value)(lo hi:Nat)(W:zH)(x rs rb tm t:Int)(aA bA:List (Int×Int))(w:World)(h:zl w lo hi v0 v1 v2 v3 W)(hR:zv W.zRQ)(hT:qF W.zRQ rs rb)(hA:qF W.zRQ (zN W x).rs (zN W x).rb)(hP:zCS W)(mA:aA=zT W.zRQ rs rb)(lA:bA=zT W.zRQ (zN W x).rs (zN W x).rb)(ht:t=(zN W x).time) :
  Calls Tryz.prog 144 #[zz v0 v1 v2 v3 W,.int .i64 x,.agg #[.int .i64 rs,.int .i64 rb],.int .i64 tm] w fun e w'=>zG (zNU aA bA t tm) e/\Below w.heap.size w w':=by
 have Hp:=zB h;have HR:=zB hR;have HT:=zB hT;have HA:=zB hA;have HP:=zB hP;have nA:=zB mA;have fA:=zB lA;have mB:=zB ht;clear h hR hT hA hP mA lA ht;have ha:=zC w (.cells #[v0,v1,.int .i64 W.time,.int .i64 W.next,v2,v3] 37);have hB:=zi.zRL w v0 v1 (.int .i64 W.time) (.int .i64 W.next) v2 v3 37;have bB:=zC (w.alloc (.cells #[v0,v1,.int .i64 W.time,.int .i64 W.next,v2,v3] 37)) (.cells #[.int .i64 rs,.int .i64 rb] 61);have hX:=zc.zRL (w.alloc (.cells #[v0,v1,.int .i64 W.time,.int .i64 W.next,v2,v3] 37)) (.int .i64 rs) (.int .i64 rb) 61;have fB:=hB.zRJ bB;have sA:=zA ha bB;have aC:(w.alloc (.cells #[v0,v1,.int .i64 W.time,.int .i64 W.next,v2,v3] 37)).heap.size=w.heap.size+1:=World.size_alloc _ _;rw[aC]at hX;clear ha bB hB;go_enter Tryz.func144,Tryz.ntmps144;go_wp2_with fail;generalize ((w.alloc (.cells #[v0,v1,.int .i64 W.time,.int .i64 W.next,v2,v3] 37)).alloc (.cells #[.int .i64 rs,.int .i64 rb] 61))=W0 at hX fB sA ⊢;refine(zAk v0 v1 v2 _ lo hi W x W0 (Hp.out.zRJ sA)).mono ?_;rintro e w1 ⟨s,b,t',rfl,hF,tA⟩;have hq:=zFs HP.out hF;obtain rfl:t=t':=mB.out.trans hq.2.2.symm;have oB:=zB (show qF W.zRQ s b by rw[hq.1,hq.2.1];exact HA.out);have HF:=zB (show bA=zT W.zRQ s b by rw[fA.out,hq.1,hq.2.1]);clear hq mB fA HA;have kB:=hX.zRJ tA;have sB:=fB.zRJ tA;have tB:=zA sA tA;have oA:=zC w1 (.cells #[.int .i64 s,.int .i64 b] 61);have vB:=zB (zc.zRL w1 (.int .i64 s) (.int .i64 b) 61);have aB:=zB (kB.zRJ oA);have eB:=zB (sB.zRJ oA);have eA:=zA tB oA;clear hX fB sA tA aC hF kB sB tB oA;obtain⟨⟨y0,y1⟩,⟨y2,y3⟩⟩:=vB.out;obtain⟨⟨z0,z1⟩,⟨z2,z3⟩⟩:=aB.out;obtain⟨⟨x0,x1⟩,⟨x2,x3⟩,⟨x4,x5⟩,⟨x6,x7⟩,⟨x8,x9⟩,⟨gB,dB⟩⟩:=eB.out;go_wp2_with fail;generalize w1.alloc (.cells #[.int .i64 s,.int .i64 b] 61)=w3 at *;refine(ye v0 v1 lo hi W.zRQ s b w3 (Hp.out.zRQ.zRJ eA) HR.out oB.out).mono ?_;rintro e w4 ⟨vo,rfl,pB,vA⟩;have ho:=(pB.atW (by have:=qM W.zRQ s b;omega));have bC:=zB (aB.out.zRJ vA);have jB:=zB (eB.out.zRJ vA);have cA:=zA eA vA;clear pB vA aB eB vB eA x0 x1 x2 x3 x4 x5 x6 x7 x8 x9 gB dB y0 y1 y2 y3 z0 z1 z2 z3;obtain⟨⟨z0,z1⟩,⟨z2,z3⟩⟩:=bC.out;obtain⟨⟨x0,x1⟩,⟨x2,x3⟩,⟨x4,x5⟩,⟨x6,x7⟩,⟨x8,x9⟩,⟨gB,dB⟩⟩:=jB.out;go_wp2_with fail;refine(ye v0 v1 lo hi W.zRQ rs rb w4 (Hp.out.zRQ.zRJ cA) HR.out HT.out).mono ?_;rintro e w5 ⟨vn,rfl,nB,cB⟩;have hn:=(nB.atW (by have:=qM W.zRQ rs rb;omega));have iB:=ho.zRJ cB;have dA:=zA cA cB;clear nB cB bC jB cA ho x0 x1 x2 x3 x4 x5 x6 x7 x8 x9 gB dB z0 z1 z2 z3;rw[<-nA.out]at hn;rw[<-HF.out]at iB;clear HF oB HT nA HR HP;obtain⟨mn,an,cn,rfl,eC,_⟩:=id hn;have Hn:=zB hn;have Ho:=zB iB;clear hn iB;unfold maxLen at mn;go_wp2
 go_loopw [13] (fun i wr=>∃k:Nat,k<=aA.length/\i = .int .i64 k/\zQY aA bA t tm k/\Below w5.heap.size w5 wr) (fun i _=>aA.length - (intOf i).toNat)
 case atStart=>exact⟨0,Nat.zero_le _,rfl,fun j hj=>absurd hj (Nat.not_lt_zero _),Below.refl _ _⟩
 case round=>
  obtain⟨k,hk,rfl,kA,hb⟩:=hrel;have iA:=zB kA;clear kA;by_cases pA:k<aA.length
  ·have dC:(k:Int)<(aA.length:Int):=(by omega);obtain⟨b1,off,rfl,q0,q1⟩:=(Hn.out.zRJ hb).zRN pA;by_cases hg:tm<zh aA k
   ·have hd:decide (tm<zh aA k)=true:=(by simp[hg]);have Hg:=zB hg;clear hg;go_wp2
    go_quiet (fail)
    go_wp2;go_ret;exact⟨zG.no fun hA=>absurd ((zKL _ _ _ _).2 hA k pA).1 (by have:=Hg.out;omega),zg (zA dA hb) _⟩
   ·have hd:decide (tm<zh aA k)=false:=(by simp;omega);have Hg:=zB (show zh aA k<=tm by omega);clear hg;go_wp2_with fail;go_region_held3 (fun w'=>w'.cell? ⟨b1,off+k*2,none⟩=some (.int .i64 (zf aA k))/\w'.cell? ⟨b1,off+k*2+1,none⟩=some (.int .i64 (zh aA k))) (go_keep)
     (first | (go_at_call 142;refine(zDO _ bA.length 0 w4.heap.size (zf bA) (zh bA) (zf aA k) (zh aA k) _ ?_).mono ?_;(exact(Ho.out.zRJ hb).zRJ ((Below.refl _ _).drew));rintro e w6 ⟨⟨t6,rfl,rB⟩,rA⟩;have z1:=(rA.cell (p:=⟨b1,off+k*2,none⟩) (zD q0)).trans q0;have z2:=(rA.cell (p:=⟨b1,off+k*2+1,none⟩) (zD q1)).trans q1))
    have lB:=qh hb rA;have cC:=zB (rB.trans zBR);clear rB rA z1 z2 q0 q1 hd;have gA:(t6 == decide (zh aA k<=t))=true↔((zf aA k,zh aA k)∈bA↔zh aA k<=t):=by
     have ho:=cC.out;cases t6<;>simp_all
    have jA:=zB gA;clear gA;cases hc:(t6 == decide (zh aA k<=t))
    ·go_wp2;go_ret;exact⟨zG.no fun hA=>absurd (jA.out.2 ((zKL _ _ _ _).2 hA k pA).2) (by simp[hc]),zA dA lB⟩
    ·go_wp2;go_roundw
     case rel=>exact⟨k+1,by omega,by go_num,zo pA iA.out ⟨Hg.out,jA.out.1 hc⟩,lB⟩
     case measure=>simp[intOf];omega
  ·obtain rfl:k=aA.length:=(by omega);go_wp2;go_ret;exact⟨zG.yes ((zKL _ _ _ _).1 iA.out),zA dA hb⟩
theorem zKX{l m:List (Int×Int)}{k:Nat}(hk:k<l.length)(h:(zf l k,zh l k)∈m):zAT (l.take (k+1)) m=zAT (l.take k) m:=by
 unfold zf zh at h;rw[yE hk]at h;unfold zAT;rw[List.take_succ_eq_append_getElem hk,List.filter_append,List.filter_cons];simp only[List.filter_nil];rw[if_neg (by simp;exact h),List.append_nil]
theorem zHw{l m:List (Int×Int)}{k:Nat}(hk:k<l.length)(h:(zf l k,zh l k)∉m):zAT (l.take (k+1)) m=zAT (l.take k) m ++ [(zf l k,zh l k)]:=by
 unfold zf zh at h ⊢;rw[yE hk]at h ⊢;unfold zAT;rw[List.take_succ_eq_append_getElem hk,List.filter_append,List.filter_cons];simp only[List.filter_nil];rw[if_pos (by simp;exact h)]
theorem zMB(l m:List (Int×Int))(k:Nat):(zAT (l.take k) m).length<=k:=by
 unfold zAT;exact Nat.le_trans (List.length_filter_le _ _) (by rw[List.length_take];omega)
theorem zG6(v0 v1 v2 v3 vd:Value)(lo hi eC lC dn:Nat)(ds db:Nat->Int)(W:zH)(x rs rb:Int)(dA aA:List (Int×Int))(w:World)(h:zl w lo hi v0 v1 v2 v3 W)(hD:zR w eC lC vd dn ds db)(hR:zv W.zRQ)(hT:qF W.zRQ rs rb)(hA:qF W.zRQ (zN W x).rs (zN W x).rb)(hP:zCS W)(rA:dA=zT W.zRQ rs rb)(oA:aA=zT W.zRQ (zN W x).rs (zN W x).rb) :
  Calls Tryz.prog 72 #[zz v0 v1 v2 v3 W,.int .i64 x,.agg #[.int .i64 rs,.int .i64 rb],vd] w fun e w'=>zG (zDh dn ds db (zAT aA dA)) e/\Below w.heap.size w w':=by
 have Hp:=zB h;have HR:=zB hR;have HT:=zB hT;have HA:=zB hA;have HP:=zB hP;have jA:=zB rA;have mA:=zB oA;have HD:=zB hD;clear h hR hT hA hP rA oA hD;have ha:=zC w (.cells #[v0,v1,.int .i64 W.time,.int .i64 W.next,v2,v3] 37);have hB:=zi.zRL w v0 v1 (.int .i64 W.time) (.int .i64 W.next) v2 v3 37;have fB:=zC (w.alloc (.cells #[v0,v1,.int .i64 W.time,.int .i64 W.next,v2,v3] 37)) (.cells #[.int .i64 rs,.int .i64 rb] 61);have hX:=zc.zRL (w.alloc (.cells #[v0,v1,.int .i64 W.time,.int .i64 W.next,v2,v3] 37)) (.int .i64 rs) (.int .i64 rb) 61;have lB:=hB.zRJ fB;have vA:=zA ha fB;have kC:(w.alloc (.cells #[v0,v1,.int .i64 W.time,.int .i64 W.next,v2,v3] 37)).heap.size=w.heap.size+1:=World.size_alloc _ _;rw[kC]at hX;clear ha fB hB;go_enter Tryz.func72,Tryz.ntmps72;go_wp2_with fail;generalize ((w.alloc (.cells #[v0,v1,.int .i64 W.time,.int .i64 W.next,v2,v3] 37)).alloc (.cells #[.int .i64 rs,.int .i64 rb] 61))=W0 at hX lB vA ⊢;refine(zAk v0 v1 v2 _ lo hi W x W0 (Hp.out.zRJ vA)).mono ?_;rintro e w1 ⟨s,b,t,rfl,hF,aB⟩;have hq:=zFs HP.out hF;have cC:=zB (show qF W.zRQ s b by rw[hq.1,hq.2.1];exact HA.out);have HF:=zB (show aA=zT W.zRQ s b by rw[mA.out,hq.1,hq.2.1]);clear hq mA HA;have sB:=hX.zRJ aB;have fC:=lB.zRJ aB;have gC:=zA vA aB;have tA:=zC w1 (.cells #[.int .i64 s,.int .i64 b] 61);have jC:=zB (zc.zRL w1 (.int .i64 s) (.int .i64 b) 61);have dB:=zB (sB.zRJ tA);have kB:=zB (fC.zRJ tA);have kA:=zA gC tA;clear hX lB vA aB kC hF sB fC gC tA;obtain⟨⟨y0,y1⟩,⟨y2,y3⟩⟩:=jC.out;obtain⟨⟨z0,z1⟩,⟨z2,z3⟩⟩:=dB.out;obtain⟨⟨x0,x1⟩,⟨x2,x3⟩,⟨x4,x5⟩,⟨x6,x7⟩,⟨x8,x9⟩,⟨oB,jB⟩⟩:=kB.out;go_wp2_with fail;generalize w1.alloc (.cells #[.int .i64 s,.int .i64 b] 61)=w3 at *;refine(ye v0 v1 lo hi W.zRQ s b w3 (Hp.out.zRQ.zRJ kA) HR.out cC.out).mono ?_;rintro e w4 ⟨vo,rfl,dC,cB⟩;have ho:=(dC.atW (by have:=qM W.zRQ s b;omega));have mC:=zB (dB.out.zRJ cB);have rB:=zB (kB.out.zRJ cB);have fA:=zA kA cB;clear dC cB dB kB jC kA x0 x1 x2 x3 x4 x5 x6 x7 x8 x9 oB jB y0 y1 y2 y3 z0 z1 z2 z3;obtain⟨⟨z0,z1⟩,⟨z2,z3⟩⟩:=mC.out;obtain⟨⟨x0,x1⟩,⟨x2,x3⟩,⟨x4,x5⟩,⟨x6,x7⟩,⟨x8,x9⟩,⟨oB,jB⟩⟩:=rB.out;go_wp2_with fail;refine(ye v0 v1 lo hi W.zRQ rs rb w4 (Hp.out.zRQ.zRJ fA) HR.out HT.out).mono ?_;rintro e w5 ⟨vn,rfl,bC,gB⟩;have hn:=(bC.atW (by have:=qM W.zRQ rs rb;omega));have bB:=ho.zRJ gB;have sA:=zA fA gB;clear bC gB mC rB fA ho x0 x1 x2 x3 x4 x5 x6 x7 x8 x9 oB jB z0 z1 z2 z3;have HL:=zB (show dA.length<=73/\aA.length<=73 by rw[jA.out,HF.out];exact⟨qM _ _ _,qM _ _ _⟩);rw[<-jA.out]at hn;rw[<-HF.out]at bB;clear HF cC HT jA HR HP;obtain⟨mo,ao,co,rfl,cD,_⟩:=id bB;have eD:aA.length<=73:=HL.out.2;have Hn:=zB hn;have Ho:=zB bB;have oC:=zB (HD.out.zRJ sA);clear hn bB HD;unfold maxLen at mo;obtain⟨i0,iC,pB⟩:=Option.map_eq_some_iff.1 zAz;simp only[Prod.mk.injEq]at pB;have HI:=zB (And.intro iC pB);clear iC pB;have vB:=zB (zC w5 (.cells #[] 61));have aC:=zB (show zw (w5.alloc (.cells #[] 61)) w5.heap.size (.slice (some ⟨w5.heap.size,0,none⟩) 0 0) [] from World.ownsRow_lit (e:=61) (size:=2) w5 #[] 0 (Nat.le_refl _) (by unfold maxLen;omega) rfl);go_wp2
 go_loopw [13,14] (fun vw i wr=>∃k:Nat,k<=aA.length/\i = .int .i64 k/\zw wr w5.heap.size vw (zAT (aA.take k) dA)/\Below w5.heap.size w5 wr) (fun _ i _=>aA.length - (intOf i).toNat)
 case atStart=>exact⟨0,Nat.zero_le _,rfl,by rw[List.take_zero];exact aC.out,vB.out⟩
 case round=>
  obtain⟨k,hk,rfl,lA,hb⟩:=hrel;have cA:=zB lA;clear lA aC vB;by_cases nB:k<aA.length
  ·have aD:(k:Int)<(aA.length:Int):=(by omega);obtain⟨b1,off,rfl,q0,q1⟩:=(Ho.out.zRJ hb).zRN nB;go_wp2_with fail;refine(zDO _ dA.length 0 w5.heap.size (zf dA) (zh dA) (zf aA k) (zh aA k) _ (Hn.out.zRJ hb)).mono ?_;rintro e w6 ⟨⟨t6,rfl,pA⟩,iA⟩;have z0:=(iA.cell (p:=⟨b1,off+k*2,none⟩) (zD q0)).trans q0;have z1:=(iA.cell (p:=⟨b1,off+k*2+1,none⟩) (zD q1)).trans q1;have iB:=zA hb iA;have bA:=zB (cA.out.zRJ iA);have mB:=zB (pA.trans zBR);clear pA iA q0 q1 cA;cases t6
   ·have eB:=zC w6 (.cells #[.int .i64 (zf aA k),.int .i64 (zh aA k)] 61);have eA:=zB (bA.out.zRJ eB);have tB:=zA iB eB;have dD:=iB.size;have bD:(w6.alloc (.cells #[.int .i64 (zf aA k),.int .i64 (zh aA k)] 61)).heap.size=w6.heap.size+1:=World.size_alloc _ _;have HN:=zB (World.news_of_block (heap_alloc_last w6 (.cells #[.int .i64 (zf aA k),.int .i64 (zh aA k)] 61)));have nC:=zMB aA dA k;clear eB bA;go_wp2_with (first
     | (at_builtin;refine wpList_append_lies _ rfl _ _ 62 rfl w5.heap.size 61 i0 (.agg #[.int .i64 0,.int .i64 0]) 2 16 (by kernel_rfl) HI.out.1 HI.out.2.1 HI.out.2.2.1 HI.out.2.2.2 rfl (by decide) _ _ _ rfl eA.out ⟨w6.heap.size,0,none⟩ 1 1 [.int .i64 (zf aA k),.int .i64 (zh aA k)] rfl rfl HN.out (by simp[Value.oneCell']) (by decide) (by unfold maxLen;omega) (by omega) (by omega) _ rfl ?_;intro g' pC w8 nA gA tC vC)
     | go_in)
    go_roundw
    case rel=>exact⟨k+1,by omega,by go_num,by rw[zHw nB (fun h=>absurd (mB.out.2 h) (by simp))];exact zw.next nA,tB.grown gA tB.size (fun q hq=>(eA.out.lt hq).1)⟩
    case measure=>simp[intOf];omega
   ·have Hm:=zB (mB.out.1 rfl);clear mB;go_wp2;go_roundw
    case rel=>exact⟨k+1,by omega,by go_num,by rw[zKX nB Hm.out];exact bA.out,iB⟩
    case measure=>simp[intOf];omega
  ·obtain rfl:k=aA.length:=(by omega);have hw:=cA.out;rw[List.take_length]at hw;have fD:(zAT aA dA).length<=aA.length:=List.length_filter_le _ _;have sC:=hw.atW (by omega);clear hw cA;go_wp2_with fail;refine(zGE vd _ dn eC lC _ 0 wr.heap.size ds db _ _ wr (oC.out.zRJ hb) sC).mono ?_;rintro e w6 ⟨⟨t6,rfl,pA⟩,iA⟩;have rC:=zB pA;clear pA;go_wp2;go_ret;exact⟨⟨t6,rfl,rC.out⟩,zA sA (zA hb iA)⟩
def zCY(W:zH)(i:Nat):Prop:=zNU (yV W (zO W i)) (zCp W (zO W i)) (zN W (zO W i).zRT).time (zO W i).time
theorem zBH.snap{W:zH}(h:zBH W){k:Nat}(hk:k<W.pn):qF W.zRQ (W.zRP k).rs (W.zRP k).rb:=by
 have:=h.tree k (by unfold zq;omega);rw[qS hk]at this;exact this
theorem zBH.set{W:zH}(h:zBH W){k:Nat}(hk:k<W.sn):qF W.zRQ (W.zRS k).rs (W.zRS k).rb:=by
 have:=h.tree (W.pn+k) (by unfold zq;omega);rw[yJ]at this;exact this
theorem zLa{v0 v1 v2 v3:Value}{lo hi:Nat}{W:zH}{w:World}(h:zl w lo hi v0 v1 v2 v3 W)(hT:zBH W)(hP:zCS W){k:Nat}(hk:k<W.pn)(w':World)(hb:Below w.heap.size w w') :
  Calls Tryz.prog 144 #[zz v0 v1 v2 v3 W,.int .i64 (W.zRP k).zRT,.agg #[.int .i64 (W.zRP k).rs,.int .i64 (W.zRP k).rb],.int .i64 (W.zRP k).time] w' fun e aA=>zG (zCY W k) e/\Below w'.heap.size w' aA:=by
 unfold zCY;rw[qS hk];exact zEv v0 v1 v2 v3 lo hi W _ _ _ _ _ _ _ w' (h.zRJ hb) hT.right (hT.snap hk) (hT.old _) hP rfl rfl rfl
theorem zMh{v0 v1 v2 v3:Value}{lo hi:Nat}{W:zH}{w:World}(h:zl w lo hi v0 v1 v2 v3 W)(hT:zBH W)(hP:zCS W){k:Nat}(hk:k<W.sn)(w':World)(hb:Below w.heap.size w w') :
  Calls Tryz.prog 144 #[zz v0 v1 v2 v3 W,.int .i64 (W.zRS k).zRT,.agg #[.int .i64 (W.zRS k).rs,.int .i64 (W.zRS k).rb],.int .i64 W.time] w' fun e aA=>zG (zCY W (W.pn+k)) e/\Below w'.heap.size w' aA:=by
 unfold zCY;rw[yJ];exact zEv v0 v1 v2 v3 lo hi W _ _ _ _ _ _ _ w' (h.zRJ hb) hT.right (hT.set hk) (hT.old _) hP rfl rfl rfl
theorem zL5(v0 v1 v2 v3:Value)(lo hi:Nat)(W:zH)(w:World)(h:zl w lo hi v0 v1 v2 v3 W)(hT:zBH W)(hP:zCS W) :
  Calls Tryz.prog 76 #[zz v0 v1 v2 v3 W] w fun e w'=>zG (∀i,i<zq W->zCY W i) e/\Below w.heap.size w w':=by
 have Hp:=zB h;have HT:=zB hT;have HP:=zB hP;obtain⟨m1,a,c,rfl,mc,_⟩:=id h.zRP;obtain⟨m2,a',c',rfl,lA,_⟩:=id h.zRS;unfold maxLen at m1 m2;clear h hT hP;have ha:=zC w (.cells #[v0,v1,.int .i64 W.time,.int .i64 W.next,.slice a' W.sn c',.slice a W.pn c] 37);have HB:=zB (zi.zRL w v0 v1 (.int .i64 W.time) (.int .i64 W.next) (.slice a' W.sn c') (.slice a W.pn c) 37);go_enter Tryz.func76,Tryz.ntmps76;go_wp2
 go_loopw [3] (fun i wr=>∃k:Nat,k<=W.pn/\i = .int .i64 k/\(∀j,j<k->zCY W j)/\zi wr w.heap.size v0 v1 (.int .i64 W.time) (.int .i64 W.next) (.slice a' W.sn c') (.slice a W.pn c)/\Below w.heap.size w wr) (fun i _=>W.pn - (intOf i).toNat)
 case atStart=>exact⟨0,Nat.zero_le _,rfl,fun j hj=>absurd hj (Nat.not_lt_zero _),HB.out,ha⟩
 case round=>
  obtain⟨k,hk,rfl,cA,hX,hb⟩:=hrel;have bA:=zB cA;have HX:=zB hX;clear cA hX ha HB;obtain⟨⟨x0,x1⟩,⟨x2,x3⟩,⟨x4,x5⟩,⟨x6,x7⟩,⟨x8,x9⟩,⟨kA,gA⟩⟩:=HX.out;by_cases dA:k<W.pn
  ·have jA:(k:Int)<(W.pn:Int):=(by omega);have Hc:=zB (zLa (Hp.out.zRJ hb) HT.out HP.out dA);obtain⟨b,off,vd,rfl,hs⟩:=(Hp.out.zRP.zRJ hb).cells dA;have q3:=hs.c3;have q4:=hs.c4;have q5:=hs.c5;have q6:=hs.c6;clear hs x1 x3 x5 x7 x9 gA;go_wp2_with fail;go_region_held3 (fun w'=>w'.cell? ⟨w.heap.size,0,none⟩=some v0/\w'.cell? ⟨w.heap.size,1,none⟩=some v1/\w'.cell? ⟨w.heap.size,2,none⟩=some (.int .i64 W.time)/\w'.cell? ⟨w.heap.size,3,none⟩=some (.int .i64 W.next)/\w'.cell? ⟨w.heap.size,4,none⟩=some (.slice a' W.sn c')/\w'.cell? ⟨w.heap.size,5,none⟩=some (.slice (some ⟨b,off,none⟩) W.pn c)/\w'.cell? ⟨b,off+k*8+3,none⟩=some (.int .i64 (W.zRP k).zRT)/\w'.cell? ⟨b,off+k*8+4,none⟩=some (.int .i64 (W.zRP k).time)/\w'.cell? ⟨b,off+k*8+5,none⟩=some (.int .i64 (W.zRP k).rs)/\w'.cell? ⟨b,off+k*8+6,none⟩=some (.int .i64 (W.zRP k).rb)) (go_keep)
    (first | (go_at_call 144;refine(Hc.out _ ?_).mono ?_;(exact(Below.refl _ _).drew);rintro e w6 ⟨⟨t6,rfl,eA⟩,aA⟩;obtain⟨⟨y0,_⟩,⟨y1,_⟩,⟨y2,_⟩,⟨y3,_⟩,⟨y4,_⟩,⟨y5,_⟩⟩:=HX.out.zRJ (zK aA);have z3:=(aA.cell (p:=⟨b,off+k*8+3,none⟩) (zD q3)).trans q3;have z4:=(aA.cell (p:=⟨b,off+k*8+4,none⟩) (zD q4)).trans q4;have z5:=(aA.cell (p:=⟨b,off+k*8+5,none⟩) (zD q5)).trans q5;have z6:=(aA.cell (p:=⟨b,off+k*8+6,none⟩) (zD q6)).trans q6))
   have fA:=qh hb aA;have iA:=zB (HX.out.zRJ (zK aA));have Ht:=zB eA;clear eA aA z3 z4 z5 z6 y0 y1 y2 y3 y4 y5 q3 q4 q5 q6 HX;cases t6
   ·have Hn:=zB (show ¬zCY W k from fun hA=>absurd (Ht.out.2 hA) (by simp));clear Ht;go_wp2;go_ret;exact⟨zG.no fun hA=>Hn.out (hA k (by unfold zq;omega)),fA⟩
   ·have Hn:=zB (Ht.out.1 rfl);clear Ht;go_wp2;go_roundw
    case rel=>exact⟨k+1,by omega,by go_num,zo dA bA.out Hn.out,iA.out,fA⟩
    case measure=>simp[intOf];omega
  ·obtain rfl:k=W.pn:=(by omega);go_wp2
   go_loopw [4] (fun i wr=>∃k:Nat,k<=W.sn/\i = .int .i64 k/\(∀j,j<W.pn+k->zCY W j)/\zi wr w.heap.size v0 v1 (.int .i64 W.time) (.int .i64 W.next) (.slice a' W.sn c') (.slice a W.pn c)/\Below w.heap.size w wr) (fun i _=>W.sn - (intOf i).toNat)
   case atStart=>exact⟨0,Nat.zero_le _,rfl,bA.out,HX.out,hb⟩
   case round=>
    clear x0 x1 x2 x3 x4 x5 x6 x7 x8 x9 kA gA HX hb bA;obtain⟨k,hk,rfl,cA,hX,hb⟩:=hrel;have bA:=zB cA;have HX:=zB hX;clear cA hX;obtain⟨⟨x0,x1⟩,⟨x2,x3⟩,⟨x4,x5⟩,⟨x6,x7⟩,⟨x8,x9⟩,⟨kA,gA⟩⟩:=HX.out;by_cases dA:k<W.sn
    ·have jA:(k:Int)<(W.sn:Int):=(by omega);have Hc:=zB (zMh (Hp.out.zRJ hb) HT.out HP.out dA);obtain⟨b,off,vd,rfl,hs⟩:=(Hp.out.zRS.zRJ hb).cells dA;have q3:=hs.c2;have q5:=hs.c3;have q6:=hs.c4;clear hs x1 x3 x5 x7 x9 gA;go_wp2_with fail;go_region_held3 (fun w'=>w'.cell? ⟨w.heap.size,0,none⟩=some v0/\w'.cell? ⟨w.heap.size,1,none⟩=some v1/\w'.cell? ⟨w.heap.size,2,none⟩=some (.int .i64 W.time)/\w'.cell? ⟨w.heap.size,3,none⟩=some (.int .i64 W.next)/\w'.cell? ⟨w.heap.size,4,none⟩=some (.slice (some ⟨b,off,none⟩) W.sn c')/\w'.cell? ⟨w.heap.size,5,none⟩=some (.slice a W.pn c)/\w'.cell? ⟨b,off+k*6+2,none⟩=some (.int .i64 (W.zRS k).zRT)/\w'.cell? ⟨b,off+k*6+3,none⟩=some (.int .i64 (W.zRS k).rs)/\w'.cell? ⟨b,off+k*6+4,none⟩=some (.int .i64 (W.zRS k).rb)) (go_keep)
      (first | (go_at_call 144;refine(Hc.out _ ?_).mono ?_;(exact(Below.refl _ _).drew);rintro e w6 ⟨⟨t6,rfl,eA⟩,aA⟩;obtain⟨⟨y0,_⟩,⟨y1,_⟩,⟨y2,_⟩,⟨y3,_⟩,⟨y4,_⟩,⟨y5,_⟩⟩:=HX.out.zRJ (zK aA);have z3:=(aA.cell (p:=⟨b,off+k*6+2,none⟩) (zD q3)).trans q3;have z5:=(aA.cell (p:=⟨b,off+k*6+3,none⟩) (zD q5)).trans q5;have z6:=(aA.cell (p:=⟨b,off+k*6+4,none⟩) (zD q6)).trans q6))
     have fA:=qh hb aA;have iA:=zB (HX.out.zRJ (zK aA));have Ht:=zB eA;clear eA aA z3 z5 z6 y0 y1 y2 y3 y4 y5 q3 q5 q6 HX;cases t6
     ·have Hn:=zB (show ¬zCY W (W.pn+k)from fun hA=>absurd (Ht.out.2 hA) (by simp));clear Ht;go_wp2;go_ret;exact⟨zG.no fun hA=>Hn.out (hA _ (by unfold zq;omega)),fA⟩
     ·have Hn:=zB (Ht.out.1 rfl);clear Ht;go_wp2;go_roundw
      case rel=>
       refine⟨k+1,by omega,by go_num,fun j hj=>?_,iA.out,fA⟩;by_cases e:j=W.pn+k
       ·subst e;exact Hn.out
       ·exact bA.out j (by omega)
      case measure=>simp[intOf];omega
    ·obtain rfl:k=W.sn:=(by omega);go_wp2;go_ret;exact⟨zG.yes bA.out,hb⟩
def yd(w:World)(R n:Nat)(f:Nat->Bool):Prop:=∀i,i<n->zX w R i (.bool (f i))
theorem yd.zRJ{w w':World}{R n:Nat}{f:Nat->Bool}(h:yd w R n f)(t:Below w.heap.size w w'):yd w' R n f:=fun i hi=>(h i hi).zRJ t
theorem yd.put{w:World}{R n:Nat}{f:Nat->Bool}(h:yd w R n f){k:Nat}(c:Bool):yd (w.setCell ⟨R,k,none⟩ (.bool c)) R n (fun i=>if i=k then c else f i):=fun i hi=>by
 by_cases e:i=k
 ·subst e;show zX _ R i (.bool (if i=i then c else f i));rw[if_pos rfl];exact(h i hi).set _
 ·show zX _ R i (.bool (if i=k then c else f i));rw[if_neg e];exact(h i hi).zRK _ (Or.inr (fun h=>e h.symm))
theorem zP7(z:Value)(n:Nat){i:Nat}(hi:i<n):(madeCells #[z] n)[i]?=some z:=by
 simp[madeCells,hi,Nat.mod_one]
theorem yd.zRL(w:World)(n:Nat)(t:TypeId):yd (w.alloc (.cells (madeCells #[.bool false] n) t)) w.heap.size n (fun _=>false):=fun i hi=>by
 have hb:(w.alloc (.cells (madeCells #[Value.bool false] n) t)).heap[w.heap.size]?=some (.cells (madeCells #[.bool false] n) t):=heap_alloc_new _ _;exact zI hb (zP7 _ _ hi)
theorem zPx:(Tryz.prog.info? 4).map (fun i=>(i.zero,i.size,i.bytes))=some (some (.bool false),1,1):=by kernel_rfl
theorem zD5(n:Nat)(hn:n<=1000)(w:World):(Instr.makeSlice 123 (.int .i64 (n:Int)) (.int .i64 (n:Int))).run Tryz.prog w = .ok (.slice (some ⟨w.heap.size,0,none⟩) n n) (w.alloc (.cells (madeCells #[.bool false] n) 4)):=
 run_make_row' 123 4 (.bool false) 1 (by kernel_rfl) zPx rfl .i64 .i64 n (by omega) (by omega) w
def zFJ(W:zH)(s:Nat):Prop:=∃m,m<zq W/\∃b,((s:Int),b)∈yV W (zO W m)
def zBZ(W:zH)(i:Nat):Int×Int:=if i<W.sn then((W.zRS i).rs,(W.zRS i).rb)else((W.zRP (i - W.sn)).rs,(W.zRP (i - W.sn)).rb)
def zB8(W:zH)(n:Nat):List (Int×Int):=(List.range n).map (zBZ W)
theorem zBj(W:zH)(n:Nat):(zB8 W n).length=n:=by simp[zB8]
theorem zG7(W:zH)(n:Nat):zB8 W (n+1)=zB8 W n ++ [zBZ W n]:=by simp[zB8,List.range_succ]
theorem zEd{W:zH}{i:Nat}(h:i<W.sn):zBZ W i=((W.zRS i).rs,(W.zRS i).rb):=if_pos h
theorem zDU(W:zH)(i:Nat):zBZ W (W.sn+i)=((W.zRP i).rs,(W.zRP i).rb):=by
 unfold zBZ;rw[if_neg (by omega),show W.sn+i - W.sn=i by omega]
theorem zOY{W:zH}{n i:Nat}(h:i<n):zf (zB8 W n) i=(zBZ W i).1/\zh (zB8 W n) i=(zBZ W i).2:=by
 unfold zf zh;rw[yE (by rw[zBj];exact h)];simp[zB8]
theorem zPk{W:zH}(hT:zBH W){i:Nat}(hi:i<W.sn+W.pn):qF W.zRQ (zBZ W i).1 (zBZ W i).2:=by
 by_cases h:i<W.sn
 ·rw[zEd h];exact hT.set h
 ·have:=zDU W (i - W.sn);rw[show W.sn+(i - W.sn)=i by omega]at this;rw[this];exact hT.snap (by omega)
theorem zMb{W:zH}{s:Nat}:zFJ W s↔∃i,i<W.sn+W.pn/\∃b,((s:Int),b)∈zT W.zRQ (zBZ W i).1 (zBZ W i).2:=by
 unfold zFJ zq yV;constructor
 ·rintro⟨m,hm,b,h⟩;by_cases hp:m<W.pn
  ·rw[qS hp]at h;exact⟨W.sn+m,by omega,b,by rw[zDU];exact h⟩
  ·have e:=yJ W (m - W.pn);rw[show W.pn+(m - W.pn)=m by omega]at e;rw[e]at h;exact⟨m - W.pn,by omega,b,by rw[zEd (by omega)];exact h⟩
 ·rintro⟨i,hi,b,h⟩;by_cases hs:i<W.sn
  ·rw[zEd hs]at h;exact⟨W.pn+i,by omega,b,by rw[yJ];exact h⟩
  ·have e:=zDU W (i - W.sn);rw[show W.sn+(i - W.sn)=i by omega]at e;rw[e]at h;exact⟨i - W.sn,by omega,b,by rw[qS (by omega)];exact h⟩
def zQ1(W:zH)(k:Nat)(l:List (Int×Int))(j s:Nat):Prop:=(∃i,i<k/\∃b,((s:Int),b)∈zT W.zRQ (zBZ W i).1 (zBZ W i).2)\/∃q,q<j/\zf l q=(s:Int)
def zEN(W:zH)(k:Nat)(l:List (Int×Int))(j:Nat)(f:Nat->Bool):Prop:=∀s,f s=true↔zQ1 W k l j s
theorem zNA{W:zH}{k j s:Nat}{l:List (Int×Int)}{f:Nat->Bool}(h:zEN W k l j f)(hs:zf l j=(s:Int)):zEN W k l (j+1) (fun i=>if i=s then true else f i):=by
 intro i;show(if i=s then true else f i)=true↔_;by_cases e:i=s
 ·subst e;rw[if_pos rfl];exact⟨fun _=>Or.inr ⟨j,by omega,hs⟩,fun _=>rfl⟩
 ·rw[if_neg e,h i];constructor
  ·rintro(h | ⟨q,hq,h⟩)
   ·exact Or.inl h
   ·exact Or.inr ⟨q,by omega,h⟩
  ·rintro(h | ⟨q,hq,h⟩)
   ·exact Or.inl h
   ·by_cases eq:q=j
    ·subst eq;exact absurd (by omega) e
    ·exact Or.inr ⟨q,by omega,h⟩
theorem zNC{W:zH}{k:Nat}{l:List (Int×Int)}{f:Nat->Bool}(h:zEN W k l l.length f)(hl:l=zT W.zRQ (zBZ W k).1 (zBZ W k).2):zEN W (k+1) [] 0 f:=by
 intro s;rw[h s];constructor
 ·rintro(⟨i,hi,h⟩ | ⟨q,hq,e⟩)
  ·exact Or.inl ⟨i,by omega,h⟩
  ·refine Or.inl ⟨k,by omega,(l[q]).2,?_⟩;unfold zf at e;rw[yE hq]at e;rw[<-hl,<-e];exact List.getElem_mem hq
 ·rintro(⟨i,hi,b,h2⟩ | ⟨q,hq,e⟩)
  ·by_cases e:i=k
   ·subst e;rw[<-hl]at h2;obtain⟨q,hq,e⟩:=List.getElem_of_mem h2;exact Or.inr ⟨q,hq,by unfold zf;rw[yE hq,e]⟩
   ·exact Or.inl ⟨i,by omega,b,h2⟩
  ·omega
theorem zK8{W:zH}{k:Nat}{f:Nat->Bool}(h:zEN W k [] 0 f)(l:List (Int×Int)):zEN W k l 0 f:=by
 intro s;rw[h s];constructor
 ·rintro(h | ⟨q,hq,_⟩)
  ·exact Or.inl h
  ·omega
 ·rintro(h | ⟨q,hq,_⟩)
  ·exact Or.inl h
  ·omega
theorem zIF{p:zJ}{rs rb:Int}(hR:zv p)(hT:qF p rs rb){j:Nat}(hj:j<(zT p rs rb).length):∃s:Nat,zf (zT p rs rb) j=(s:Int)/\s<p.n:=by
 unfold zf;rw[yE hj];have:=(zAY hR hT (List.getElem_mem hj)).1;obtain⟨_,h0,h1,_⟩:=this;exact⟨((zT p rs rb)[j]).1.toNat,by omega,by omega⟩
theorem zi.grown{w w1:World}{b:Nat}{v0 v1 v2 v3 v4 v5:Value}{row:Option Nat}(h:zi w b v0 v1 v2 v3 v4 v5)(hg:w.grownBy w1 row)(aA:∀q,row=some q->b≠q):zi w1 b v0 v1 v2 v3 v4 v5:=by
 have hb:b<w.heap.size:=h.1.lt;refine h.zRR (S:=fun k=>row=some k) ⟨hg.os,hg.tape,hg.output,hg.size,fun k hk hs=>hg.block k hk (fun e=>hs e.symm)⟩ (fun e=>aA b e rfl)
theorem yd.grown{w w1:World}{R n:Nat}{f:Nat->Bool}{row:Option Nat}(h:yd w R n f)(hg:w.grownBy w1 row)(aA:∀q,row=some q->R≠q):yd w1 R n f:=fun i hi=>
 (h i hi).zRR (S:=fun k=>row=some k) ⟨hg.os,hg.tape,hg.output,hg.size,fun k hk hs=>hg.block k hk (fun e=>hs e.symm)⟩ (fun e=>aA R e rfl)
theorem zKI(v0 v1 v2 v3:Value)(lo hi:Nat)(W:zH)(w:World)(h:zl w lo hi v0 v1 v2 v3 W)(hT:zBH W)(hs:W.sn<=8)(hp:W.pn<=20) :
  Calls Tryz.prog 73 #[zz v0 v1 v2 v3 W] w fun e w'=>∃R f,e = .returned (.slice (some ⟨R,0,none⟩) W.zRQ.n W.zRQ.n)/\w.heap.size<=R/\yd w' R W.zRQ.n f/\(∀s,f s=true↔zFJ W s)/\Below w.heap.size w w':=by
 have Hp:=zB h;have HT:=zB hT;obtain⟨m1,a,c,rfl,mc,_⟩:=id h.zRP;obtain⟨m2,a',c',rfl,sC,_⟩:=id h.zRS;obtain⟨m0,a0,c0,rfl,pC,_⟩:=id h.zRQ.1;unfold maxLen at m0 m1 m2;have aD:W.zRQ.n<=200:=hT.right.1;clear h hT;obtain⟨i0,aC,nB⟩:=Option.map_eq_some_iff.1 zAz;simp only[Prod.mk.injEq]at nB;have HI:=zB (And.intro aC nB);clear aC nB;have vC:=zD5 W.zRQ.n (by omega);have ha:=zC w (.cells #[.slice a0 W.zRQ.n c0,v1,.int .i64 W.time,.int .i64 W.next,.slice a' W.sn c',.slice a W.pn c] 37);have eB:(w.alloc (.cells #[.slice a0 W.zRQ.n c0,v1,.int .i64 W.time,.int .i64 W.next,.slice a' W.sn c',.slice a W.pn c] 37)).heap.size=w.heap.size+1:=World.size_alloc _ _;have eC:∀W1:World,W1=w.alloc (.cells #[.slice a0 W.zRQ.n c0,v1,.int .i64 W.time,.int .i64 W.next,.slice a' W.sn c',.slice a W.pn c] 37)->zi ((W1.alloc (.cells (madeCells #[.bool false] W.zRQ.n) 4)).alloc (.cells #[] 61)) w.heap.size (.slice a0 W.zRQ.n c0) v1 (.int .i64 W.time) (.int .i64 W.next) (.slice a' W.sn c') (.slice a W.pn c)/\yd ((W1.alloc (.cells (madeCells #[.bool false] W.zRQ.n) 4)).alloc (.cells #[] 61)) (w.heap.size+1) W.zRQ.n (fun _=>false)/\zw ((W1.alloc (.cells (madeCells #[.bool false] W.zRQ.n) 4)).alloc (.cells #[] 61)) (w.heap.size+2) (.slice (some ⟨w.heap.size+1+1,0,none⟩) 0 0) []/\Below w.heap.size w ((W1.alloc (.cells (madeCells #[.bool false] W.zRQ.n) 4)).alloc (.cells #[] 61)):=by
  rintro W1 rfl;have hB:=zi.zRL w (.slice a0 W.zRQ.n c0) v1 (.int .i64 W.time) (.int .i64 W.next) (.slice a' W.sn c') (.slice a W.pn c) 37;have hR:=yd.zRL (w.alloc (.cells #[.slice a0 W.zRQ.n c0,v1,.int .i64 W.time,.int .i64 W.next,.slice a' W.sn c',.slice a W.pn c] 37)) W.zRQ.n 4;rw[eB]at hR;generalize w.alloc (.cells #[.slice a0 W.zRQ.n c0,v1,.int .i64 W.time,.int .i64 W.next,.slice a' W.sn c',.slice a W.pn c] 37)=W1 at *;have b2:=zC W1 (.cells (madeCells #[.bool false] W.zRQ.n) 4);have dB:(W1.alloc (.cells (madeCells #[.bool false] W.zRQ.n) 4)).heap.size=w.heap.size+1+1:=(by rw[World.size_alloc,eB]);have kC:=hB.zRJ b2;have mC:=zA ha b2;generalize W1.alloc (.cells (madeCells #[.bool false] W.zRQ.n) 4)=W2 at *;have b3:=zC W2 (.cells #[] 61);have l3:=World.ownsRow_lit (e:=61) (size:=2) (base:=w.heap.size+2) W2 #[] 0 (by rw[dB];omega) (by unfold maxLen;omega) rfl;rw[dB]at l3;exact⟨kC.zRJ b3,hR.zRJ b3,l3,zA mC b3⟩
 have tB:=zB (eC _ rfl);clear eC;go_enter Tryz.func73,Tryz.ntmps73;obtain⟨⟨x0,x1⟩,⟨x2,x3⟩,⟨x4,x5⟩,⟨x6,x7⟩,⟨x8,x9⟩,⟨kA,oA⟩⟩:=zi.zRL w (.slice a0 W.zRQ.n c0) v1 (.int .i64 W.time) (.int .i64 W.next) (.slice a' W.sn c') (.slice a W.pn c) 37;go_wp2;clear x0 x1 x2 x3 x4 x5 x6 x7 x8 x9 kA oA ha
 go_loopw [4,5] (fun vr i wr=>∃k:Nat,k<=W.sn/\i = .int .i64 k/\zw wr (w.heap.size+2) vr (zB8 W k)/\zi wr w.heap.size (.slice a0 W.zRQ.n c0) v1 (.int .i64 W.time) (.int .i64 W.next) (.slice a' W.sn c') (.slice a W.pn c)/\yd wr (w.heap.size+1) W.zRQ.n (fun _=>false)/\Below w.heap.size w wr) (fun _ i _=>W.sn - (intOf i).toNat)
 case atStart=>
  obtain⟨s1,s2,s3,s4⟩:=tB.out;exact⟨0,Nat.zero_le _,rfl,s3,s1,s2,s4⟩
 case round=>
  clear tB eB;obtain⟨k,hk,rfl,dA,hX,hR,hb⟩:=hrel;have aA:=zB dA;have HX:=zB hX;have eA:=zB hR;clear dA hX hR;obtain⟨⟨x0,x1⟩,⟨x2,x3⟩,⟨x4,x5⟩,⟨x6,x7⟩,⟨x8,x9⟩,⟨kA,oA⟩⟩:=HX.out;by_cases lA:k<W.sn
  ·have cB:(k:Int)<(W.sn:Int):=(by omega);obtain⟨b,off,vd,rfl,jA⟩:=(Hp.out.zRS.zRJ hb).cells lA;have q3:=jA.c3;have q4:=jA.c4;clear jA;have gA:=zC wr (.cells #[.int .i64 (W.zRS k).rs,.int .i64 (W.zRS k).rb] 61);have cA:=zB (aA.out.zRJ gA);have rA:=zB (HX.out.zRJ gA);have sA:=zB (eA.out.zRJ gA);have tA:=zA hb gA;have dB:=zD kA;have iC:=(eA.out);have gC:(wr.alloc (.cells #[.int .i64 (W.zRS k).rs,.int .i64 (W.zRS k).rb] 61)).heap.size=wr.heap.size+1:=World.size_alloc _ _;have HN:=zB (World.news_of_block (heap_alloc_last wr (.cells #[.int .i64 (W.zRS k).rs,.int .i64 (W.zRS k).rb] 61)));have nA:=zBj W k;clear gA aA HX eA iC;go_wp2_with (first
    | (at_builtin;refine wpList_append_lies _ rfl _ _ 62 rfl (w.heap.size+2) 61 i0 (.agg #[.int .i64 0,.int .i64 0]) 2 16 (by kernel_rfl) HI.out.1 HI.out.2.1 HI.out.2.2.1 HI.out.2.2.2 rfl (by decide) _ _ _ rfl cA.out ⟨wr.heap.size,0,none⟩ 1 1 [.int .i64 (W.zRS k).rs,.int .i64 (W.zRS k).rb] rfl rfl HN.out (by simp[Value.oneCell']) (by decide) (by unfold maxLen;omega) (by omega) (by omega) _ rfl ?_;intro g' fB w8 iA bA kB mB)
    | go_in)
   go_roundw
   case rel=>
    have pA:∀q,Value.ownBlock _=some q->w.heap.size+2<=q:=fun q hq=>(cA.out.lt hq).1
    refine⟨k+1,by omega,by go_num,?_,rA.out.grown bA (fun q hq=>by have:=pA q hq;omega),sA.out.grown bA (fun q hq=>by have:=pA q hq;omega),tA.grown bA tA.size (fun q hq=>by have:=pA q hq;omega)⟩;rw[zG7,zEd lA];have bB:=zw.next iA;rw[nA]at bB;exact bB
   case measure=>simp[intOf];omega
  ·obtain rfl:k=W.sn:=(by omega);go_wp2
   go_loopw [4,6] (fun vr i wr=>∃k:Nat,k<=W.pn/\i = .int .i64 k/\zw wr (w.heap.size+2) vr (zB8 W (W.sn+k))/\zi wr w.heap.size (.slice a0 W.zRQ.n c0) v1 (.int .i64 W.time) (.int .i64 W.next) (.slice a' W.sn c') (.slice a W.pn c)/\yd wr (w.heap.size+1) W.zRQ.n (fun _=>false)/\Below w.heap.size w wr) (fun _ i _=>W.pn - (intOf i).toNat)
   case atStart=>exact⟨0,Nat.zero_le _,rfl,aA.out,HX.out,eA.out,hb⟩
   case round=>
    clear x0 x1 x2 x3 x4 x5 x6 x7 x8 x9 kA oA HX hb aA eA;obtain⟨k,hk,rfl,dA,hX,hR,hb⟩:=hrel;have aA:=zB dA;have HX:=zB hX;have eA:=zB hR;clear dA hX hR;obtain⟨⟨x0,x1⟩,⟨x2,x3⟩,⟨x4,x5⟩,⟨x6,x7⟩,⟨x8,x9⟩,⟨kA,oA⟩⟩:=HX.out;by_cases lA:k<W.pn
    ·have cB:(k:Int)<(W.pn:Int):=(by omega);obtain⟨b,off,vd,rfl,jA⟩:=(Hp.out.zRP.zRJ hb).cells lA;have q3:=jA.c5;have q4:=jA.c6;clear jA;have gA:=zC wr (.cells #[.int .i64 (W.zRP k).rs,.int .i64 (W.zRP k).rb] 61);have cA:=zB (aA.out.zRJ gA);have rA:=zB (HX.out.zRJ gA);have sA:=zB (eA.out.zRJ gA);have tA:=zA hb gA;have dB:=zD kA;have gC:(wr.alloc (.cells #[.int .i64 (W.zRP k).rs,.int .i64 (W.zRP k).rb] 61)).heap.size=wr.heap.size+1:=World.size_alloc _ _;have HN:=zB (World.news_of_block (heap_alloc_last wr (.cells #[.int .i64 (W.zRP k).rs,.int .i64 (W.zRP k).rb] 61)));have nA:=zBj W (W.sn+k);clear gA aA HX eA;go_wp2_with (first
      | (at_builtin;refine wpList_append_lies _ rfl _ _ 62 rfl (w.heap.size+2) 61 i0 (.agg #[.int .i64 0,.int .i64 0]) 2 16 (by kernel_rfl) HI.out.1 HI.out.2.1 HI.out.2.2.1 HI.out.2.2.2 rfl (by decide) _ _ _ rfl cA.out ⟨wr.heap.size,0,none⟩ 1 1 [.int .i64 (W.zRP k).rs,.int .i64 (W.zRP k).rb] rfl rfl HN.out (by simp[Value.oneCell']) (by decide) (by unfold maxLen;omega) (by omega) (by omega) _ rfl ?_;intro g' fB w8 iA bA kB mB)
      | go_in)
     go_roundw
     case rel=>
      have pA:∀q,Value.ownBlock _=some q->w.heap.size+2<=q:=fun q hq=>(cA.out.lt hq).1
      refine⟨k+1,by omega,by go_num,?_,rA.out.grown bA (fun q hq=>by have:=pA q hq;omega),sA.out.grown bA (fun q hq=>by have:=pA q hq;omega),tA.grown bA tA.size (fun q hq=>by have:=pA q hq;omega)⟩;rw[show W.sn+(k+1)=W.sn+k+1 from rfl,zG7,zDU];have bB:=zw.next iA;rw[nA]at bB;exact bB
     case measure=>simp[intOf];omega
    ·obtain rfl:k=W.pn:=(by omega);go_wp2;obtain⟨ar,cr,rfl,oC⟩:=zW aA.out;rw[zBj]at *;clear x0 x1 x2 x3 x4 x5 x6 x7 x8 x9 kA oA
     go_loopw [7] (fun i wr=>∃k:Nat,∃f,k<=W.sn+W.pn/\i = .int .i64 k/\zw wr (w.heap.size+2) (.slice ar (W.sn+W.pn) cr) (zB8 W (W.sn+W.pn))/\zi wr w.heap.size (.slice a0 W.zRQ.n c0) v1 (.int .i64 W.time) (.int .i64 W.next) (.slice a' W.sn c') (.slice a W.pn c)/\yd wr (w.heap.size+1) W.zRQ.n f/\zEN W k [] 0 f/\Below w.heap.size w wr) (fun i _=>W.sn+W.pn - (intOf i).toNat)
     case atStart=>exact⟨0,fun _=>false,Nat.zero_le _,rfl,aA.out,HX.out,eA.out,fun s=>⟨fun h=>absurd h (by simp),fun h=>by rcases h with⟨i,hi,_⟩ | ⟨q,hq,_⟩<;>omega⟩,hb⟩
     case round=>
      clear HX hb aA eA;obtain⟨k,f,hk,rfl,dA,hX,hR,hm,hb⟩:=hrel;have aA:=zB dA;have HX:=zB hX;have eA:=zB hR;have Hm:=zB hm;clear dA hX hR hm;by_cases lA:k<W.sn+W.pn
      ·have cB:(k:Int)<(W.sn+W.pn:Int):=(by omega);have bC:=zPk HT.out lA;have jB:=zOY (W:=W) lA;have fA:=(aA.out.atW (by rw[zBj];omega));rw[zBj]at fA;obtain⟨b,off,rfl,q0,q1⟩:=fA.zRN lA;rw[jB.1]at q0;rw[jB.2]at q1;have iB:=zB bC;clear bC jB;generalize dC:(zBZ W k).1=rs at *;generalize sB:(zBZ W k).2=rb at *;have lB:=zB (And.intro dC sB);clear dC sB fA;obtain⟨⟨x0,x1⟩,⟨x2,x3⟩,⟨x4,x5⟩,⟨x6,x7⟩,⟨x8,x9⟩,⟨kA,oA⟩⟩:=HX.out;clear x1 x3 x4 x5 x6 x7 x8 x9 kA oA;go_wp2_with fail;go_region_held3 (fun w'=>w'.cell? ⟨w.heap.size,0,none⟩=some (.slice a0 W.zRQ.n c0)/\w'.cell? ⟨w.heap.size,1,none⟩=some v1/\w'.cell? ⟨b,off+k*2,none⟩=some (.int .i64 rs)/\w'.cell? ⟨b,off+k*2+1,none⟩=some (.int .i64 rb)) (go_keep)
        (first | (go_at_call 141;refine(ye _ v1 lo hi W.zRQ rs rb _ ?_ HT.out.right iB.out).mono ?_;(exact(Hp.out.zRQ.zRJ hb).zRJ (Below.refl _ _).drew);rintro e w6 ⟨vl,rfl,pB,mA⟩;obtain⟨⟨y0,_⟩,⟨y1,_⟩,_⟩:=HX.out.zRJ (zK mA);have z0:=(mA.cell (p:=⟨b,off+k*2,none⟩) (zD q0)).trans q0;have z1:=(mA.cell (p:=⟨b,off+k*2+1,none⟩) (zD q1)).trans q1))
       have vA:=qh hb mA;have rA:=zB (HX.out.zRJ (zK mA));have sA:=zB (eA.out.zRJ (zK mA));have cA:=zB (aA.out.zRJ (zK mA));have gB:0<W.zRQ.n->w.heap.size+1<wr.heap.size:=fun h0=>(eA.out 0 h0).lt
       have Hl:=zB pB;clear mA pB z0 z1 y0 y1 q0 q1 x0 x2 HX eA aA;have rB:wr.drew.heap.size=wr.heap.size:=rfl;rw[rB]at Hl;obtain⟨al,cl,rfl,bD⟩:=zW Hl.out;have rC:=qM W.zRQ rs rb;have jC:=zB (fun j (hj:j<(zT W.zRQ rs rb).length)=>zIF HT.out.right iB.out hj);have HE:=zB (show zT W.zRQ rs rb=zT W.zRQ (zBZ W k).1 (zBZ W k).2 by rw[lB.out.1,lB.out.2]);generalize zT W.zRQ rs rb=l at *;clear lB iB rB;go_wp2
       go_loopw [9] (fun i aB=>∃j:Nat,∃f,j<=l.length/\i = .int .i64 j/\zw aB wr.heap.size (.slice al l.length cl) l/\zw aB (w.heap.size+2) (.slice (some ⟨b,off,none⟩) (W.sn+W.pn) cr) (zB8 W (W.sn+W.pn))/\zi aB w.heap.size (.slice a0 W.zRQ.n c0) v1 (.int .i64 W.time) (.int .i64 W.next) (.slice a' W.sn c') (.slice a W.pn c)/\yd aB (w.heap.size+1) W.zRQ.n f/\zEN W k l j f/\Below w.heap.size w aB) (fun i _=>l.length - (intOf i).toNat)
       case atStart=>exact⟨0,f,Nat.zero_le _,rfl,Hl.out,cA.out,rA.out,sA.out,zK8 Hm.out l,vA⟩
       case round=>
        clear rA sA cA Hl vA Hm f;obtain⟨j,f,hj,rfl,vB,dA,hX,hR,hm,vA⟩:=hrel;have Hl:=zB vB;have aA:=zB dA;have HX:=zB hX;have eA:=zB hR;have Hm:=zB hm;clear dA hX hR hm vB;by_cases cC:j<l.length
        ·have fC:(j:Int)<(l.length:Int):=(by omega);obtain⟨b2,nC,rfl,q0,q1⟩:=(Hl.out.atW (by omega)).zRN cC;obtain⟨s,oB,jA⟩:=jC.out j cC;have tC:(s:Int)<(W.zRQ.n:Int):=(by omega);rw[oB]at q0;obtain⟨y0,y1⟩:=eA.out s jA;have lC:=zB oB;clear oB q1;go_wp2;go_roundw
         case rel=>exact⟨j+1,_,by omega,by go_num,Hl.out.put (gB (by omega)) _,aA.out.put (by omega) _,HX.out.zRR (zF.put _ (w.heap.size+1) s _) (by omega),eA.out.put true,zNA Hm.out lC.out,vA.setCell (show w.heap.size<=w.heap.size+1 by omega) _⟩
         case measure=>simp[intOf];omega
        ·obtain rfl:j=l.length:=(by omega);go_wp2;go_roundw
         case rel=>exact⟨k+1,f,by omega,by go_num,aA.out,HX.out,eA.out,zNC Hm.out HE.out,vA⟩
         case measure=>simp[intOf];omega
      ·obtain rfl:k=W.sn+W.pn:=(by omega);go_wp2;go_ret;refine⟨_,f,rfl,by omega,eA.out,fun s=>?_,hb⟩;rw[Hm.out s,zMb];constructor
       ·rintro(h | ⟨q,hq,_⟩)
        ·exact h
        ·omega
       ·exact Or.inl
def zKm(W:zH)(k:Nat):Prop:=∀i,i<k->∀j,j<i->∀x,x∈zFF W (zO W i)->∀y,y∈zFF W (zO W j)->x.1≠y.1
def zCU(W:zH)(k:Nat)(now old:List (Int×Int))(j:Nat):Prop:=∀q,q<j->(zf now q,zh now q)∉old->∀i,i<k->∀y,y∈zFF W (zO W i)->zf now q≠y.1
def zQ3(W:zH)(k:Nat)(now old:List (Int×Int))(j s:Nat):Prop:=(∃i,i<k/\∃b,((s:Int),b)∈zFF W (zO W i))\/∃q,q<j/\zf now q=(s:Int)/\(zf now q,zh now q)∉old
def zBf(W:zH)(k:Nat)(now old:List (Int×Int))(j:Nat)(f:Nat->Bool):Prop:=∀s,f s=true↔zQ3 W k now old j s
theorem zId{W:zH}{k:Nat}{aA bA:List (Int×Int)}(h:zKm W k)(hn:aA=yV W (zO W k))(ho:bA=zCp W (zO W k))(hr:zCU W k aA bA aA.length):zKm W (k+1):=by
 intro i hi j hj x hx y hy;by_cases e:i=k
 ·subst e;obtain⟨h1,h2⟩:=List.mem_filter.1 hx;rw[<-hn]at h1;rw[<-ho]at h2;obtain⟨q,hq,e⟩:=List.getElem_of_mem h1;have:=hr q hq;unfold zf zh at this;rw[yE hq,e]at this;exact this (by simpa using h2) j hj y hy
 ·exact h i (by omega) j hj x hx y hy
theorem zJE{W:zH}{k j:Nat}{aA bA:List (Int×Int)}{f:Nat->Bool}(h:zBf W k aA bA j f)(cA:(zf aA j,zh aA j)∈bA):zBf W k aA bA (j+1) f:=by
 intro s;rw[h s];constructor
 ·rintro(h | ⟨q,hq,h⟩)
  ·exact Or.inl h
  ·exact Or.inr ⟨q,by omega,h⟩
 ·rintro(h | ⟨q,hq,h1,h2⟩)
  ·exact Or.inl h
  ·by_cases e:q=j
   ·subst e;exact absurd cA h2
   ·exact Or.inr ⟨q,by omega,h1,h2⟩
theorem zJC{W:zH}{k j s:Nat}{aA bA:List (Int×Int)}{f:Nat->Bool}(h:zBf W k aA bA j f)(hs:zf aA j=(s:Int))(cA:(zf aA j,zh aA j)∉bA):zBf W k aA bA (j+1) (fun i=>if i=s then true else f i):=by
 intro i;show(if i=s then true else f i)=true↔_;by_cases e:i=s
 ·subst e;rw[if_pos rfl];exact⟨fun _=>Or.inr ⟨j,by omega,hs,cA⟩,fun _=>rfl⟩
 ·rw[if_neg e,h i];constructor
  ·rintro(h | ⟨q,hq,h⟩)
   ·exact Or.inl h
   ·exact Or.inr ⟨q,by omega,h⟩
  ·rintro(h | ⟨q,hq,h,h2⟩)
   ·exact Or.inl h
   ·by_cases eq:q=j
    ·subst eq;exact absurd (by omega) e
    ·exact Or.inr ⟨q,by omega,h,h2⟩
theorem zLS{W:zH}{k j:Nat}{aA bA:List (Int×Int)}(h:zCU W k aA bA j)(cA:(zf aA j,zh aA j)∈bA):zCU W k aA bA (j+1):=by
 intro q hq;by_cases e:q=j
 ·subst e;exact fun h=>absurd cA h
 ·exact h q (by omega)
theorem zLW{W:zH}{k j s:Nat}{aA bA:List (Int×Int)}{f:Nat->Bool}(h:zCU W k aA bA j)(hS:zBf W k aA bA j f)(hs:zf aA j=(s:Int))(hf:f s=false):zCU W k aA bA (j+1):=by
 intro q hq;by_cases e:q=j
 ·subst e;intro _ i hi y hy ey;have:f s=true:=(hS s).2 (Or.inl ⟨i,hi,y.2,by rw[<-hs,ey];exact hy⟩);rw[hf]at this;exact absurd this (by simp)
 ·exact h q (by omega)
theorem zJq{W:zH}{k:Nat}{aA bA:List (Int×Int)}{f:Nat->Bool}(h:zBf W k aA bA aA.length f)(hn:aA=yV W (zO W k))(ho:bA=zCp W (zO W k)):zBf W (k+1) [] [] 0 f:=by
 intro s;rw[h s];constructor
 ·rintro(⟨i,hi,h⟩ | ⟨q,hq,e,h2⟩)
  ·exact Or.inl ⟨i,by omega,h⟩
  ·refine Or.inl ⟨k,by omega,(aA[q]).2,?_⟩;unfold zf zh at h2;unfold zf at e;rw[yE hq]at e h2;refine List.mem_filter.2 ⟨?_,?_⟩
   ·rw[<-hn,<-e];exact List.getElem_mem hq
   ·rw[<-ho,<-e];simpa using h2
 ·rintro(⟨i,hi,b,h2⟩ | ⟨q,hq,_⟩)
  ·by_cases e:i=k
   ·subst e;obtain⟨h3,h4⟩:=List.mem_filter.1 h2;rw[<-hn]at h3;rw[<-ho]at h4;obtain⟨q,hq,e⟩:=List.getElem_of_mem h3;refine Or.inr ⟨q,hq,?_⟩;unfold zf zh;rw[yE hq,e];exact⟨rfl,by simpa using h4⟩
   ·exact Or.inl ⟨i,by omega,b,h2⟩
  ·omega
theorem zHz{W:zH}{k:Nat}{f:Nat->Bool}(h:zBf W k [] [] 0 f)(aA bA:List (Int×Int)):zBf W k aA bA 0 f:=by
 intro s;rw[h s];constructor
 ·rintro(h | ⟨q,hq,_⟩)
  ·exact Or.inl h
  ·omega
 ·rintro(h | ⟨q,hq,_⟩)
  ·exact Or.inl h
  ·omega
theorem zHv{W:zH}{k j s:Nat}{aA bA:List (Int×Int)}{f:Nat->Bool}(hT:zBH W)(hk:k<zq W)(hn:aA=yV W (zO W k))(ho:bA=zCp W (zO W k))(hS:zBf W k aA bA j f)(hj:j<aA.length)(hs:zf aA j=(s:Int))(dA:(zf aA j,zh aA j)∉bA)(hf:f s=true):¬zGR W:=by
 intro hA;rcases(hS s).1 hf with⟨i,hi,b,h⟩ | ⟨q,hq,e,h2⟩
 ·refine hA k hk i hi (zf aA j,zh aA j) ?_ _ h hs;refine List.mem_filter.2 ⟨?_,by rw[<-ho];simpa using dA⟩;rw[<-hn];unfold zf zh;rw[yE hj];exact List.getElem_mem hj
 ·have cA:=zBK hT.right (l:=aA) (fun x hx=>by rw[hn]at hx;exact(zAY hT.right (hT.tree k hk) hx).1) (by rw[hn];exact zAe hT.right (hT.tree k hk)) (by rw[hn];have:=qM W.zRQ (zO W k).rs (zO W k).rb;unfold yV;omega);exact cA.2.2 j hj q hq (by rw[e,hs])
theorem zJ1(v0 v1 v2 v3:Value)(lo hi:Nat)(W:zH)(w:World)(h:zl w lo hi v0 v1 v2 v3 W)(hT:zBH W)(hP:zCS W)(hs:W.sn<=8)(hp:W.pn<=20) :
  Calls Tryz.prog 77 #[zz v0 v1 v2 v3 W] w fun e w'=>zG (zGR W) e/\Below w.heap.size w w':=by
 have Hp:=zB h;have HT:=zB hT;have HP:=zB hP;obtain⟨m1,a,c,rfl,mc,-⟩:=id h.zRP;obtain⟨m2,a',c',rfl,rE,-⟩:=id h.zRS;obtain⟨m0,a0,c0,rfl,mE,-⟩:=id h.zRQ.1;unfold maxLen at m0 m1 m2;have pE:W.zRQ.n<=200:=hT.right.1;clear h hT hP;have oE:=zD5 W.zRQ.n (by omega);have ha:=zC w (.cells #[.slice a0 W.zRQ.n c0,v1,.int .i64 W.time,.int .i64 W.next,.slice a' W.sn c',.slice a W.pn c] 37);have pD:(w.alloc (.cells #[.slice a0 W.zRQ.n c0,v1,.int .i64 W.time,.int .i64 W.next,.slice a' W.sn c',.slice a W.pn c] 37)).heap.size=w.heap.size+1:=World.size_alloc _ _;have dE:∀W1:World,W1=w.alloc (.cells #[.slice a0 W.zRQ.n c0,v1,.int .i64 W.time,.int .i64 W.next,.slice a' W.sn c',.slice a W.pn c] 37)->zi (W1.alloc (.cells (madeCells #[.bool false] W.zRQ.n) 4)) w.heap.size (.slice a0 W.zRQ.n c0) v1 (.int .i64 W.time) (.int .i64 W.next) (.slice a' W.sn c') (.slice a W.pn c)/\yd (W1.alloc (.cells (madeCells #[.bool false] W.zRQ.n) 4)) (w.heap.size+1) W.zRQ.n (fun _=>false)/\Below w.heap.size w (W1.alloc (.cells (madeCells #[.bool false] W.zRQ.n) 4))/\w.heap.size+2<=(W1.alloc (.cells (madeCells #[.bool false] W.zRQ.n) 4)).heap.size:=by
  rintro W1 rfl;have hB:=zi.zRL w (.slice a0 W.zRQ.n c0) v1 (.int .i64 W.time) (.int .i64 W.next) (.slice a' W.sn c') (.slice a W.pn c) 37;have hR:=yd.zRL (w.alloc (.cells #[.slice a0 W.zRQ.n c0,v1,.int .i64 W.time,.int .i64 W.next,.slice a' W.sn c',.slice a W.pn c] 37)) W.zRQ.n 4;rw[pD]at hR;generalize w.alloc (.cells #[.slice a0 W.zRQ.n c0,v1,.int .i64 W.time,.int .i64 W.next,.slice a' W.sn c',.slice a W.pn c] 37)=W1 at *;have b2:=zC W1 (.cells (madeCells #[.bool false] W.zRQ.n) 4);exact⟨hB.zRJ b2,hR,zA ha b2,by rw[World.size_alloc,pD];omega⟩
 have aE:=zB (dE _ rfl);clear dE;go_enter Tryz.func77,Tryz.ntmps77;obtain⟨⟨x0,x1⟩,⟨x2,x3⟩,⟨x4,x5⟩,⟨x6,x7⟩,⟨x8,x9⟩,⟨nA,mA⟩⟩:=zi.zRL w (.slice a0 W.zRQ.n c0) v1 (.int .i64 W.time) (.int .i64 W.next) (.slice a' W.sn c') (.slice a W.pn c) 37;go_wp2;clear x0 x1 x2 x3 x4 x5 x6 x7 x8 x9 nA mA ha
 go_loopw [4] (fun i wr=>∃k:Nat,∃f,k<=W.pn+W.sn/\i = .int .i64 k/\zi wr w.heap.size (.slice a0 W.zRQ.n c0) v1 (.int .i64 W.time) (.int .i64 W.next) (.slice a' W.sn c') (.slice a W.pn c)/\yd wr (w.heap.size+1) W.zRQ.n f/\zBf W k [] [] 0 f/\zKm W k/\Below w.heap.size w wr/\w.heap.size+2<=wr.heap.size) (fun i _=>W.pn+W.sn - (intOf i).toNat)
 case atStart=>
  obtain⟨s1,s2,s3,s4⟩:=aE.out;exact⟨0,fun _=>false,Nat.zero_le _,rfl,s1,s2,fun s=>⟨fun h=>absurd h (by simp),fun h=>by rcases h with⟨i,hi,_⟩ | ⟨q,hq,_⟩<;>omega⟩,fun i hi=>absurd hi (Nat.not_lt_zero _),s3,s4⟩
 case round=>
  clear aE pD;obtain⟨k,f,hk,rfl,hX,hR,hS,hA,hb,hz⟩:=hrel;have HX:=zB hX;have eA:=zB hR;have HS:=zB hS;have HA:=zB hA;clear hX hR hS hA;obtain⟨⟨x0,x1⟩,⟨x2,x3⟩,⟨x4,x5⟩,⟨x6,x7⟩,⟨x8,x9⟩,⟨nA,mA⟩⟩:=HX.out;by_cases nE:k<W.pn+W.sn
  ·have jE:(k:Int)<(W.pn+W.sn:Int):=(by omega);by_cases bE:k<W.pn
   ·have jD:(k:Int)<(W.pn:Int):=(by omega);obtain⟨b,off,vd,rfl,jB⟩:=(Hp.out.zRP.zRJ hb).cells bE;have q3:=jB.c3;have q5:=jB.c5;have q6:=jB.c6;have Hm:=zB (show(zO W k).zRT=(W.zRP k).zRT/\(zO W k).rs=(W.zRP k).rs/\(zO W k).rb=(W.zRP k).rb from by rw[qS bE];exact⟨rfl,rfl,rfl⟩);clear jB;have dA:=zC wr (.cells #[.int .i64 0,.int .i64 0] 61);have bD:=zB (HX.out.zRJ dA);have cD:=zB (zc.zRL wr (.int .i64 0) (.int .i64 0) 61);have rD:=zB (eA.out.zRJ dA);have r3:=(dA.cell (zD q3)).trans q3;have r5:=(dA.cell (zD q5)).trans q5;have r6:=(dA.cell (zD q6)).trans q6;have lD:=zA hb dA;have mD:(wr.alloc (.cells #[.int .i64 0,.int .i64 0] 61)).heap.size=wr.heap.size+1:=World.size_alloc _ _;have kD:b<wr.heap.size:=zD q3;have eC:w.heap.size≠wr.heap.size:=(by omega);have vB:b≠wr.heap.size:=(by omega);obtain⟨⟨y0,y1⟩,⟨y2,y3⟩,⟨y4,y5⟩,⟨y6,y7⟩,⟨y8,y9⟩,⟨oD,vD⟩⟩:=bD.out;obtain⟨⟨p0,p1⟩,⟨p2,p3⟩⟩:=cD.out;generalize jC:(W.zRP k).zRT=x at *;generalize sA:(W.zRP k).rs=rs at *;generalize oA:(W.zRP k).rb=rb at *;have gD:=zB (And.intro jC (And.intro sA oA));clear jC sA oA;have fB:=zC wr (.cells #[.int .i64 rs,.int .i64 rb] 61);have gB:=zB (HX.out.zRJ fB);have fC:=zB (zc.zRL wr (.int .i64 rs) (.int .i64 rb) 61);have tB:=zB (eA.out.zRJ fB);have eB:=zA hb fB;obtain⟨⟨z0,z1⟩,⟨z2,z3⟩,⟨z4,z5⟩,⟨z6,z7⟩,⟨z8,z9⟩,⟨nD,tD⟩⟩:=gB.out;go_wp2_with fail;clear x0 x1 x2 x3 x4 x5 x6 x7 x8 x9 nA mA y0 y1 y2 y3 y4 y5 y6 y7 y8 y9 oD vD z0 z1 z2 z3 z4 z5 z6 z7 z8 z9 nD tD p0 p1 p2 p3 r3 r5 r6 q3 q5 q6 bD cD rD lD dA mD eC vB kD fB;have aD:w.heap.size+2<=(wr.alloc (.cells #[.int .i64 rs,.int .i64 rb] 61)).heap.size:=(by rw[World.size_alloc];omega);generalize wr.alloc (.cells #[.int .i64 rs,.int .i64 rb] 61)=W3 at gB fC tB eB aD ⊢;refine(zAk _ v1 _ _ lo hi W x W3 (Hp.out.zRJ eB)).mono ?_;rintro e w1 ⟨s,bb,t,rfl,hF,kA⟩;have hq:=zFs HP.out hF;have rC:=zB (show qF W.zRQ s bb by rw[hq.1,hq.2.1];exact HT.out.old x);have cC:=zB (show qF W.zRQ rs rb by have:=HT.out.tree k (by unfold zq;omega);rw[Hm.out.2.1,Hm.out.2.2]at this;exact this);have HE:=zB (show zT W.zRQ rs rb=yV W (zO W k)/\zT W.zRQ s bb=zCp W (zO W k)by unfold yV zCp;rw[Hm.out.1,Hm.out.2.1,Hm.out.2.2,hq.1,hq.2.1];exact⟨rfl,rfl⟩);have jA:=zC w1 (.cells #[.int .i64 s,.int .i64 bb] 61);have kB:=zB ((gB.out.zRJ kA).zRJ jA);have oB:=zB ((fC.out.zRJ kA).zRJ jA);have iC:=zB ((tB.out.zRJ kA).zRJ jA);have nB:=zB (zc.zRL w1 (.int .i64 s) (.int .i64 bb) 61);have iB:=zA (zA eB kA) jA;have bC:w.heap.size+2<=(w1.alloc (.cells #[.int .i64 s,.int .i64 bb] 61)).heap.size:=(by have h1:=kA.size;have h2:=jA.size;omega);clear hq hF kA jA gB fC tB eB aD gD Hm;obtain⟨⟨x0,x1⟩,⟨x2,x3⟩,⟨x4,x5⟩,⟨x6,x7⟩,⟨x8,x9⟩,⟨nA,mA⟩⟩:=kB.out;obtain⟨⟨p0,p1⟩,⟨p2,p3⟩⟩:=nB.out;clear x4 x5 x6 x7 x8 x9 nA mA x1 x3 p1 p3;go_wp2_with fail;clear x0 x2 p0 p2;generalize w1.alloc (.cells #[.int .i64 s,.int .i64 bb] 61)=w4 at kB oB iC nB iB bC ⊢;refine(ye _ v1 lo hi W.zRQ s bb w4 (Hp.out.zRQ.zRJ iB) HT.out.right rC.out).mono ?_;rintro e w5 ⟨vo,rfl,rA,lA⟩;have mB:=zB (kB.out.zRJ lA);have mC:=zB (oB.out.zRJ lA);have sC:=zB (iC.out.zRJ lA);have fA:=zB (rA.mono bC);have pB:=zA iB lA;have oC:w.heap.size+2<=w5.heap.size:=(by have h1:=lA.size;omega);clear rA lA kB oB iC nB iB bC rC;obtain⟨⟨x0,x1⟩,⟨x2,x3⟩,⟨x4,x5⟩,⟨x6,x7⟩,⟨x8,x9⟩,⟨nA,mA⟩⟩:=mB.out;obtain⟨⟨p0,p1⟩,⟨p2,p3⟩⟩:=mC.out;clear x4 x5 x6 x7 x8 x9 nA mA x1 x3 p1 p3;go_wp2_with fail;clear x0 x2 p0 p2;refine(ye _ v1 lo hi W.zRQ rs rb w5 (Hp.out.zRQ.zRJ pB) HT.out.right cC.out).mono ?_;rintro e w6 ⟨vn,rfl,pA,gA⟩;have vC:=zB (mB.out.zRJ gA);have eD:=zB (sC.out.zRJ gA);have tA:=zB (fA.out.zRJ gA);have bA:=zB (pA.mono oC);have pC:=zA pB gA;have nC:w.heap.size+2<=w6.heap.size:=(by have h1:=gA.size;omega);have sD:=zB (fun j (hj:j<(zT W.zRQ rs rb).length)=>zIF HT.out.right cC.out hj);have kE:=qM W.zRQ rs rb;have eE:=qM W.zRQ s bb;clear pA gA mB mC sC fA pB oC cC;obtain⟨an,cn,rfl,fE⟩:=zW bA.out;generalize zT W.zRQ rs rb=now at *;generalize zT W.zRQ s bb=old at *;go_wp2
    go_loopw [11] (fun i iA=>∃j:Nat,∃f,j<=now.length/\i = .int .i64 j/\zw iA (w.heap.size+2) vo old/\zw iA (w.heap.size+2) (.slice an now.length cn) now/\zi iA w.heap.size (.slice a0 W.zRQ.n c0) v1 (.int .i64 W.time) (.int .i64 W.next) (.slice a' W.sn c') (.slice (some ⟨b,off,none⟩) W.pn c)/\yd iA (w.heap.size+1) W.zRQ.n f/\zBf W k now old j f/\zCU W k now old j/\Below w.heap.size w iA/\w.heap.size+2<=iA.heap.size) (fun i _=>now.length - (intOf i).toNat)
    case atStart=>exact⟨0,f,Nat.zero_le _,rfl,tA.out,bA.out,vC.out,eD.out,zHz HS.out _ _,fun q hq=>absurd hq (Nat.not_lt_zero _),pC,nC⟩
    case round=>
     clear vC eD tA bA pC nC HS HX eA hb hz;obtain⟨j,f,hj,rfl,rA,pA,hX,hR,hS,tC,hb,hz⟩:=hrel;have fA:=zB rA;have dC:=zB pA;have HX:=zB hX;have eA:=zB hR;have HS:=zB hS;have rB:=zB tC;clear rA pA hX hR hS tC;by_cases gC:j<now.length
     ·have fD:(j:Int)<(now.length:Int):=(by omega);obtain⟨b2,aC,rfl,q0,q1⟩:=(dC.out.atW (by omega)).zRN gC;obtain⟨sl,kC,iD⟩:=sD.out j gC;have iE:(sl:Int)<(W.zRQ.n:Int):=(by omega);have cB:=zB kC;clear kC;go_wp2_with fail;refine(zDO _ old.length 0 _ (zf old) (zh old) (zf now j) (zh now j) _ (fA.out.atW (by omega))).mono ?_;rintro e w7 ⟨⟨t7,rfl,dD⟩,aA⟩;have dB:=zB (dD.trans zBR);have z0:=(aA.cell (p:=⟨b2,aC+j*2,none⟩) (zD q0)).trans q0;have aB:=zB (fA.out.zRJ aA);have vA:=zB (dC.out.zRJ aA);have lC:=zB (HX.out.zRJ aA);have sB:=zB (eA.out.zRJ aA);have cA:=zA hb aA;have bB:w.heap.size+2<=w7.heap.size:=(by have h1:=aA.size;omega);clear dD aA q0 q1 fA dC HX eA hb hz;cases t7
      ·have Hn:=zB (show(zf now j,zh now j)∉old from fun h=>absurd (dB.out.2 h) (by simp));clear dB;rw[cB.out]at z0;obtain⟨y0,y1⟩:=sB.out sl iD;cases hfs:f sl
       ·have lB:=zB hfs;rw[hfs]at y0;clear hfs;go_wp2;go_roundw
        case rel=>exact⟨j+1,_,by omega,by go_num,aB.out.put (by omega) _,vA.out.put (by omega) _,lC.out.zRR (zF.put _ (w.heap.size+1) sl _) (by omega),sB.out.put true,zJC HS.out cB.out Hn.out,zLW rB.out HS.out cB.out lB.out,cA.setCell (show w.heap.size<=w.heap.size+1 by omega) _,by rw[World.size_setCell];exact bB⟩
        case measure=>simp[intOf];omega
       ·have lB:=zB hfs;rw[hfs]at y0;clear hfs;go_wp2;go_ret;exact⟨zG.no (zHv HT.out (by unfold zq;omega) HE.out.1 HE.out.2 HS.out gC cB.out Hn.out lB.out),cA⟩
      ·have Hn:=zB (dB.out.1 rfl);clear dB;go_wp2;go_roundw
       case rel=>exact⟨j+1,f,by omega,by go_num,aB.out,vA.out,lC.out,sB.out,zJE HS.out Hn.out,zLS rB.out Hn.out,cA,bB⟩
       case measure=>simp[intOf];omega
     ·obtain rfl:j=now.length:=(by omega);go_wp2;go_roundw
      case rel=>exact⟨k+1,f,by omega,by go_num,HX.out,eA.out,zJq HS.out HE.out.1 HE.out.2,zId HA.out HE.out.1 HE.out.2 rB.out,hb,hz⟩
      case measure=>simp[intOf];omega
   ·have jD:¬(k:Int)<(W.pn:Int):=(by omega);have cE:k - W.pn<W.sn:=(by omega);have lE:(k:Int) - (W.pn:Int)=((k - W.pn:Nat):Int):=(Int.ofNat_sub (by omega)).symm;have gE:((k - W.pn:Nat):Int)<(W.sn:Int):=Int.ofNat_lt.2 cE;obtain⟨b,off,vd,rfl,jB⟩:=(Hp.out.zRS.zRJ hb).cells cE;have q3:=jB.c2;have q5:=jB.c3;have q6:=jB.c4;have Hm:=zB (show(zO W k).zRT=(W.zRS (k - W.pn)).zRT/\(zO W k).rs=(W.zRS (k - W.pn)).rs/\(zO W k).rb=(W.zRS (k - W.pn)).rb from by have e:=yJ W (k - W.pn);rw[show W.pn+(k - W.pn)=k by omega]at e;rw[e];exact⟨rfl,rfl,rfl⟩);clear jB;have dA:=zC wr (.cells #[.int .i64 0,.int .i64 0] 61);have bD:=zB (HX.out.zRJ dA);have cD:=zB (zc.zRL wr (.int .i64 0) (.int .i64 0) 61);have rD:=zB (eA.out.zRJ dA);have r3:=(dA.cell (zD q3)).trans q3;have r5:=(dA.cell (zD q5)).trans q5;have r6:=(dA.cell (zD q6)).trans q6;have lD:=zA hb dA;have mD:(wr.alloc (.cells #[.int .i64 0,.int .i64 0] 61)).heap.size=wr.heap.size+1:=World.size_alloc _ _;have kD:b<wr.heap.size:=zD q3;have eC:w.heap.size≠wr.heap.size:=(by omega);have vB:b≠wr.heap.size:=(by omega);obtain⟨⟨y0,y1⟩,⟨y2,y3⟩,⟨y4,y5⟩,⟨y6,y7⟩,⟨y8,y9⟩,⟨oD,vD⟩⟩:=bD.out;obtain⟨⟨p0,p1⟩,⟨p2,p3⟩⟩:=cD.out;generalize jC:(W.zRS (k - W.pn)).zRT=x at *;generalize sA:(W.zRS (k - W.pn)).rs=rs at *;generalize oA:(W.zRS (k - W.pn)).rb=rb at *;have gD:=zB (And.intro jC (And.intro sA oA));clear jC sA oA;have fB:=zC wr (.cells #[.int .i64 rs,.int .i64 rb] 61);have gB:=zB (HX.out.zRJ fB);have fC:=zB (zc.zRL wr (.int .i64 rs) (.int .i64 rb) 61);have tB:=zB (eA.out.zRJ fB);have eB:=zA hb fB;obtain⟨⟨z0,z1⟩,⟨z2,z3⟩,⟨z4,z5⟩,⟨z6,z7⟩,⟨z8,z9⟩,⟨nD,tD⟩⟩:=gB.out;go_wp2_with fail;clear x0 x1 x2 x3 x4 x5 x6 x7 x8 x9 nA mA y0 y1 y2 y3 y4 y5 y6 y7 y8 y9 oD vD z0 z1 z2 z3 z4 z5 z6 z7 z8 z9 nD tD p0 p1 p2 p3 r3 r5 r6 q3 q5 q6 bD cD rD lD dA mD eC vB kD fB;have aD:w.heap.size+2<=(wr.alloc (.cells #[.int .i64 rs,.int .i64 rb] 61)).heap.size:=(by rw[World.size_alloc];omega);generalize wr.alloc (.cells #[.int .i64 rs,.int .i64 rb] 61)=W3 at gB fC tB eB aD ⊢;refine(zAk _ v1 _ _ lo hi W x W3 (Hp.out.zRJ eB)).mono ?_;rintro e w1 ⟨s,bb,t,rfl,hF,kA⟩;have hq:=zFs HP.out hF;have rC:=zB (show qF W.zRQ s bb by rw[hq.1,hq.2.1];exact HT.out.old x);have cC:=zB (show qF W.zRQ rs rb by have:=HT.out.tree k (by unfold zq;omega);rw[Hm.out.2.1,Hm.out.2.2]at this;exact this);have HE:=zB (show zT W.zRQ rs rb=yV W (zO W k)/\zT W.zRQ s bb=zCp W (zO W k)by unfold yV zCp;rw[Hm.out.1,Hm.out.2.1,Hm.out.2.2,hq.1,hq.2.1];exact⟨rfl,rfl⟩);have jA:=zC w1 (.cells #[.int .i64 s,.int .i64 bb] 61);have kB:=zB ((gB.out.zRJ kA).zRJ jA);have oB:=zB ((fC.out.zRJ kA).zRJ jA);have iC:=zB ((tB.out.zRJ kA).zRJ jA);have nB:=zB (zc.zRL w1 (.int .i64 s) (.int .i64 bb) 61);have iB:=zA (zA eB kA) jA;have bC:w.heap.size+2<=(w1.alloc (.cells #[.int .i64 s,.int .i64 bb] 61)).heap.size:=(by have h1:=kA.size;have h2:=jA.size;omega);clear hq hF kA jA gB fC tB eB aD gD Hm;obtain⟨⟨x0,x1⟩,⟨x2,x3⟩,⟨x4,x5⟩,⟨x6,x7⟩,⟨x8,x9⟩,⟨nA,mA⟩⟩:=kB.out;obtain⟨⟨p0,p1⟩,⟨p2,p3⟩⟩:=nB.out;clear x4 x5 x6 x7 x8 x9 nA mA x1 x3 p1 p3;go_wp2_with fail;clear x0 x2 p0 p2;generalize w1.alloc (.cells #[.int .i64 s,.int .i64 bb] 61)=w4 at kB oB iC nB iB bC ⊢;refine(ye _ v1 lo hi W.zRQ s bb w4 (Hp.out.zRQ.zRJ iB) HT.out.right rC.out).mono ?_;rintro e w5 ⟨vo,rfl,rA,lA⟩;have mB:=zB (kB.out.zRJ lA);have mC:=zB (oB.out.zRJ lA);have sC:=zB (iC.out.zRJ lA);have fA:=zB (rA.mono bC);have pB:=zA iB lA;have oC:w.heap.size+2<=w5.heap.size:=(by have h1:=lA.size;omega);clear rA lA kB oB iC nB iB bC rC;obtain⟨⟨x0,x1⟩,⟨x2,x3⟩,⟨x4,x5⟩,⟨x6,x7⟩,⟨x8,x9⟩,⟨nA,mA⟩⟩:=mB.out;obtain⟨⟨p0,p1⟩,⟨p2,p3⟩⟩:=mC.out;clear x4 x5 x6 x7 x8 x9 nA mA x1 x3 p1 p3;go_wp2_with fail;clear x0 x2 p0 p2;refine(ye _ v1 lo hi W.zRQ rs rb w5 (Hp.out.zRQ.zRJ pB) HT.out.right cC.out).mono ?_;rintro e w6 ⟨vn,rfl,pA,gA⟩;have vC:=zB (mB.out.zRJ gA);have eD:=zB (sC.out.zRJ gA);have tA:=zB (fA.out.zRJ gA);have bA:=zB (pA.mono oC);have pC:=zA pB gA;have nC:w.heap.size+2<=w6.heap.size:=(by have h1:=gA.size;omega);have sD:=zB (fun j (hj:j<(zT W.zRQ rs rb).length)=>zIF HT.out.right cC.out hj);have kE:=qM W.zRQ rs rb;have eE:=qM W.zRQ s bb;clear pA gA mB mC sC fA pB oC cC;obtain⟨an,cn,rfl,fE⟩:=zW bA.out;generalize zT W.zRQ rs rb=now at *;generalize zT W.zRQ s bb=old at *;go_wp2
    go_loopw [11] (fun i iA=>∃j:Nat,∃f,j<=now.length/\i = .int .i64 j/\zw iA (w.heap.size+2) vo old/\zw iA (w.heap.size+2) (.slice an now.length cn) now/\zi iA w.heap.size (.slice a0 W.zRQ.n c0) v1 (.int .i64 W.time) (.int .i64 W.next) (.slice (some ⟨b,off,none⟩) W.sn c') (.slice a W.pn c)/\yd iA (w.heap.size+1) W.zRQ.n f/\zBf W k now old j f/\zCU W k now old j/\Below w.heap.size w iA/\w.heap.size+2<=iA.heap.size) (fun i _=>now.length - (intOf i).toNat)
    case atStart=>exact⟨0,f,Nat.zero_le _,rfl,tA.out,bA.out,vC.out,eD.out,zHz HS.out _ _,fun q hq=>absurd hq (Nat.not_lt_zero _),pC,nC⟩
    case round=>
     clear vC eD tA bA pC nC HS HX eA hb hz;obtain⟨j,f,hj,rfl,rA,pA,hX,hR,hS,tC,hb,hz⟩:=hrel;have fA:=zB rA;have dC:=zB pA;have HX:=zB hX;have eA:=zB hR;have HS:=zB hS;have rB:=zB tC;clear rA pA hX hR hS tC;by_cases gC:j<now.length
     ·have fD:(j:Int)<(now.length:Int):=(by omega);obtain⟨b2,aC,rfl,q0,q1⟩:=(dC.out.atW (by omega)).zRN gC;obtain⟨sl,kC,iD⟩:=sD.out j gC;have iE:(sl:Int)<(W.zRQ.n:Int):=(by omega);have cB:=zB kC;clear kC;go_wp2_with fail;refine(zDO _ old.length 0 _ (zf old) (zh old) (zf now j) (zh now j) _ (fA.out.atW (by omega))).mono ?_;rintro e w7 ⟨⟨t7,rfl,dD⟩,aA⟩;have dB:=zB (dD.trans zBR);have z0:=(aA.cell (p:=⟨b2,aC+j*2,none⟩) (zD q0)).trans q0;have aB:=zB (fA.out.zRJ aA);have vA:=zB (dC.out.zRJ aA);have lC:=zB (HX.out.zRJ aA);have sB:=zB (eA.out.zRJ aA);have cA:=zA hb aA;have bB:w.heap.size+2<=w7.heap.size:=(by have h1:=aA.size;omega);clear dD aA q0 q1 fA dC HX eA hb hz;cases t7
      ·have Hn:=zB (show(zf now j,zh now j)∉old from fun h=>absurd (dB.out.2 h) (by simp));clear dB;rw[cB.out]at z0;obtain⟨y0,y1⟩:=sB.out sl iD;cases hfs:f sl
       ·have lB:=zB hfs;rw[hfs]at y0;clear hfs;go_wp2;go_roundw
        case rel=>exact⟨j+1,_,by omega,by go_num,aB.out.put (by omega) _,vA.out.put (by omega) _,lC.out.zRR (zF.put _ (w.heap.size+1) sl _) (by omega),sB.out.put true,zJC HS.out cB.out Hn.out,zLW rB.out HS.out cB.out lB.out,cA.setCell (show w.heap.size<=w.heap.size+1 by omega) _,by rw[World.size_setCell];exact bB⟩
        case measure=>simp[intOf];omega
       ·have lB:=zB hfs;rw[hfs]at y0;clear hfs;go_wp2;go_ret;exact⟨zG.no (zHv HT.out (by unfold zq;omega) HE.out.1 HE.out.2 HS.out gC cB.out Hn.out lB.out),cA⟩
      ·have Hn:=zB (dB.out.1 rfl);clear dB;go_wp2;go_roundw
       case rel=>exact⟨j+1,f,by omega,by go_num,aB.out,vA.out,lC.out,sB.out,zJE HS.out Hn.out,zLS rB.out Hn.out,cA,bB⟩
       case measure=>simp[intOf];omega
     ·obtain rfl:j=now.length:=(by omega);go_wp2;go_roundw
      case rel=>exact⟨k+1,f,by omega,by go_num,HX.out,eA.out,zJq HS.out HE.out.1 HE.out.2,zId HA.out HE.out.1 HE.out.2 rB.out,hb,hz⟩
      case measure=>simp[intOf];omega
  ·obtain rfl:k=W.pn+W.sn:=(by omega);go_wp2;go_ret;exact⟨zG.yes HA.out,hb⟩
def qu(W:zH)(x:Int):Prop:=∃k,k<W.pn/\(W.zRP k).id=x
def zAP(W:zH)(x:ByteArray):Prop:=∃k,k<W.sn/\(W.zRS k).name=x
def zE2(W:zH)(i:Nat):Prop:=yM (W.zRS i).name/\(0<i->zDI (W.zRS (i - 1)).name (W.zRS i).name)/\((W.zRS i).zRT≠0->qu W (W.zRS i).zRT)/\((W.zRS i).origin≠0->qu W (W.zRS i).origin)
def zGs(W:zH)(i:Nat):Prop:=1<=(W.zRP i).id/\(W.zRP i).id<W.next/\1<=(W.zRP i).time/\(W.zRP i).time<W.time/\yM (W.zRP i).name/\zAP W (W.zRP i).set
def zFk(W:zH)(i:Nat):Prop:=(0<i->(W.zRP (i - 1)).id<(W.zRP i).id/\(W.zRP (i - 1)).time<(W.zRP i).time)/\((W.zRP i).zRT≠0->(W.zRP i).zRT<(W.zRP i).id/\qu W (W.zRP i).zRT)
def zPO(W:zH)(i j:Nat):Prop:=∀k,k<j->¬((W.zRP k).set=(W.zRP i).set/\(W.zRP k).name=(W.zRP i).name)
def zPo(W:zH)(i:Nat):Prop:=zGs W i/\zFk W i/\zPO W i i
def zBM(W:zH):Prop:=zBq W.time 1 900000/\zBq W.next 1 900000/\W.sn<=8/\W.pn<=20/\(∀i,i<W.sn->zE2 W i)/\∀i,i<W.pn->zPo W i
theorem qi{W:zH}{x r:Int}(h:zF5 W.pn (fun k=>(W.zRP k).id=x) r):(qu W x/\0<=r/\r<W.pn/\(W.zRP r.toNat).id=x)\/(¬qu W x/\r = -1):=by
 rcases h with⟨k,hk,e,_,rfl⟩ | ⟨hn,rfl⟩
 ·exact Or.inl ⟨⟨k,hk,e⟩,by omega,by omega,by simpa using e⟩
 ·exact Or.inr ⟨fun ⟨k,hk,e⟩=>hn k hk e,rfl⟩
theorem zN3{W:zH}{x:ByteArray}{r:Int}(h:zF5 W.sn (fun k=>(W.zRS k).name=x) r):(zAP W x/\0<=r)\/(¬zAP W x/\r = -1):=by
 rcases h with⟨k,hk,e,_,rfl⟩ | ⟨hn,rfl⟩
 ·exact Or.inl ⟨⟨k,hk,e⟩,by omega⟩
 ·exact Or.inr ⟨fun ⟨k,hk,e⟩=>hn k hk e,rfl⟩
def zCH(w:World)(b:Nat)(v0 v1 v2 v3 v4 v5 v6 v7:Value):Prop:=(zX w b 0 v0/\zX w b 1 v1/\zX w b 2 v2/\zX w b 3 v3)/\(zX w b 4 v4/\zX w b 5 v5/\zX w b 6 v6/\zX w b 7 v7)
theorem zCH.zRJ{w w':World}{b:Nat}{v0 v1 v2 v3 v4 v5 v6 v7:Value}(h:zCH w b v0 v1 v2 v3 v4 v5 v6 v7)(t:Below w.heap.size w w'):zCH w' b v0 v1 v2 v3 v4 v5 v6 v7:=
 ⟨⟨h.1.1.zRJ t,h.1.2.1.zRJ t,h.1.2.2.1.zRJ t,h.1.2.2.2.zRJ t⟩,h.2.1.zRJ t,h.2.2.1.zRJ t,h.2.2.2.1.zRJ t,h.2.2.2.2.zRJ t⟩
theorem zCH.zRL(w:World)(v0 v1 v2 v3 v4 v5 v6 v7:Value)(t:TypeId):zCH (w.alloc (.cells #[v0,v1,v2,v3,v4,v5,v6,v7] t)) w.heap.size v0 v1 v2 v3 v4 v5 v6 v7:=by
 have hb:(w.alloc (.cells #[v0,v1,v2,v3,v4,v5,v6,v7] t)).heap[w.heap.size]?=some (.cells #[v0,v1,v2,v3,v4,v5,v6,v7] t):=heap_alloc_new _ _;exact⟨⟨zI hb rfl,zI hb rfl,zI hb rfl,zI hb rfl⟩,zI hb rfl,zI hb rfl,zI hb rfl,zI hb rfl⟩
end Go.Proofs.YtmgeglgboadfiaaGreatDoor
