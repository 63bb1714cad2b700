/- What spec.l04BornIn answers. -/
import Derived.Test.YtmgeglgboadfiaaGreatDoorV5
set_option linter.unusedVariables false
set_option maxRecDepth 20000
set_option maxHeartbeats 4000000
namespace Go.Proofs.YtmgeglgboadfiaaGreatDoor
open Go.RowKit Go.Maps
theorem zw.atW{w:World}{base:Nat}{v:Value}{l:List (Int×Int)}(h:zw w base v l)(hm:l.length<=1000):zU w 0 w.heap.size v l.length (zf l) (zh l):=by
 obtain⟨b,h1,h2⟩:=h.own (by unfold maxLen;omega);exact h1.at (fun h0=>⟨Nat.zero_le _,(h2 h0).2.2⟩)
def zQe(now old:List (Int×Int))(t tm:Int)(n:Nat):Prop:=∀i,i<n->zh now i<=tm/\((zf now i,zh now i)∈old↔zh now i<=t)
theorem zKD(aA bA:List (Int×Int))(t tm:Int):zQe aA bA t tm aA.length↔zNc aA bA t tm:=by
 constructor
 ·intro h x hx;obtain⟨j,hj,e⟩:=List.getElem_of_mem hx;have:=h j hj;unfold zf zh at this;rw[yD hj,e]at this;exact this
 ·intro h i hi;have:=h _ (List.getElem_mem hi);unfold zf zh;rw[yD hi];exact this
def zCo(W:zH):Prop:=∀k,k<W.pn->1<=(W.zRe k).id
def zKs(W:zH)(x s b t:Int):Prop:=s=(zN W x).rs/\b=(zN W x).rb/\t=(zN W x).time
theorem zF3{W:zH}{x s b t:Int}(hp:zCo W)(h:zKm W x s b t):zKs W x s b t:=by
 rcases h with⟨k,_,hk,h1,h2,h3⟩ | ⟨hn,h1,h2,h3⟩
 ·unfold zKs;rw[qq hk];exact⟨h1,h2,h3⟩
 ·have e:zN W x=yK:=by
   rcases hn with rfl | hn
   ·exact zFV (fun k hk e=>by have:=hp k hk;omega)
   ·exact zFV hn
  unfold zKs;rw[e];exact⟨h1,h2,h3⟩
theorem zFH(v0 v1 v2 v3:Value)(lo hi:Nat)(W:zH)(x rs rb tm t:Int)(aA bA:List (Int×Int))(w:World)(h:zk w lo hi v0 v1 v2 v3 W)(hR:zx W.zRd)(hT:qH W.zRd rs rb)(hA:qH W.zRd (zN W x).rs (zN W x).rb)(hP:zCo W)(iA:aA=zR W.zRd rs rb)(fA:bA=zR W.zRd (zN W x).rs (zN W x).rb)(ht:t=(zN W x).time) :
  Calls Tryz.prog 144 #[zz v0 v1 v2 v3 W,.int .i64 x,.agg #[.int .i64 rs,.int .i64 rb],.int .i64 tm] w fun e w'=>zG (zNc aA bA t tm) e/\Below w.heap.size w w':=by
 have Hp:=zB h;have HR:=zB hR;have HT:=zB hT;have HA:=zB hA;have HP:=zB hP;have lA:=zB iA;have gA:=zB fA;have aC:=zB ht;clear h hR hT hA hP iA fA ht;have ha:=zC w (.cells #[v0,v1,.int .i64 W.time,.int .i64 W.next,v2,v3] 37);have hB:=zi.zRZ w v0 v1 (.int .i64 W.time) (.int .i64 W.next) v2 v3 37;have eB:=zC (w.alloc (.cells #[v0,v1,.int .i64 W.time,.int .i64 W.next,v2,v3] 37)) (.cells #[.int .i64 rs,.int .i64 rb] 61);have hX:=zc.zRZ (w.alloc (.cells #[v0,v1,.int .i64 W.time,.int .i64 W.next,v2,v3] 37)) (.int .i64 rs) (.int .i64 rb) 61;have bB:=hB.zRX eB;have tA:=zA ha eB;have pB:(w.alloc (.cells #[v0,v1,.int .i64 W.time,.int .i64 W.next,v2,v3] 37)).heap.size=w.heap.size+1:=World.size_alloc _ _;rw[pB]at hX;clear ha eB hB;go_enter Tryz.func144,Tryz.ntmps144;go_wp2_with fail;generalize ((w.alloc (.cells #[v0,v1,.int .i64 W.time,.int .i64 W.next,v2,v3] 37)).alloc (.cells #[.int .i64 rs,.int .i64 rb] 61))=W0 at hX bB tA ⊢;refine(zAw v0 v1 v2 _ lo hi W x W0 (Hp.out.zRX tA)).mono ?_;rintro e w1 ⟨s,b,t',rfl,hF,sA⟩;have hq:=zF3 HP.out hF;obtain rfl:t=t':=aC.out.trans hq.2.2.symm;have vB:=zB (show qH W.zRd s b by rw[hq.1,hq.2.1];exact HA.out);have HF:=zB (show bA=zR W.zRd s b by rw[gA.out,hq.1,hq.2.1]);clear hq aC gA HA;have kB:=hX.zRX sA;have sB:=bB.zRX sA;have rB:=zA tA sA;have vA:=zC w1 (.cells #[.int .i64 s,.int .i64 b] 61);have bC:=zB (zc.zRZ w1 (.int .i64 s) (.int .i64 b) 61);have aB:=zB (kB.zRX vA);have iB:=zB (sB.zRX vA);have cA:=zA rB vA;clear hX bB tA sA pB hF kB sB rB vA;obtain⟨⟨y0,y1⟩,⟨y2,y3⟩⟩:=bC.out;obtain⟨⟨z0,z1⟩,⟨z2,z3⟩⟩:=aB.out;obtain⟨⟨x0,x1⟩,⟨x2,x3⟩,⟨x4,x5⟩,⟨x6,x7⟩,⟨x8,x9⟩,⟨cB,gB⟩⟩:=iB.out;go_wp2_with fail;generalize w1.alloc (.cells #[.int .i64 s,.int .i64 b] 61)=w3 at *;refine(ye v0 v1 lo hi W.zRd s b w3 (Hp.out.zRd.zRX cA) HR.out vB.out).mono ?_;rintro e w4 ⟨vo,rfl,mB,oA⟩;have ho:=(mB.atW (by have:=qL W.zRd s b;omega));have lB:=zB (aB.out.zRX oA);have oB:=zB (iB.out.zRX oA);have eA:=zA cA oA;clear mB oA aB iB bC cA x0 x1 x2 x3 x4 x5 x6 x7 x8 x9 cB gB y0 y1 y2 y3 z0 z1 z2 z3;obtain⟨⟨z0,z1⟩,⟨z2,z3⟩⟩:=lB.out;obtain⟨⟨x0,x1⟩,⟨x2,x3⟩,⟨x4,x5⟩,⟨x6,x7⟩,⟨x8,x9⟩,⟨cB,gB⟩⟩:=oB.out;go_wp2_with fail;refine(ye v0 v1 lo hi W.zRd rs rb w4 (Hp.out.zRd.zRX eA) HR.out HT.out).mono ?_;rintro e w5 ⟨vn,rfl,tB,fB⟩;have hn:=(tB.atW (by have:=qL W.zRd rs rb;omega));have dB:=ho.zRX fB;have dA:=zA eA fB;clear tB fB lB oB eA ho x0 x1 x2 x3 x4 x5 x6 x7 x8 x9 cB gB z0 z1 z2 z3;rw[<-lA.out]at hn;rw[<-HF.out]at dB;clear HF vB HT lA HR HP;obtain⟨mn,an,cn,rfl,eC,_⟩:=id hn;have Hn:=zB hn;have Ho:=zB dB;clear hn dB;unfold maxLen at mn;go_wp2
 go_loopw [13] (fun i wr=>∃k:Nat,k<=aA.length/\i = .int .i64 k/\zQe aA bA t tm k/\Below w5.heap.size w5 wr) (fun i _=>aA.length - (intOf i).toNat)
 case atStart=>exact⟨0,Nat.zero_le _,rfl,fun j hj=>absurd hj (Nat.not_lt_zero _),Below.refl _ _⟩
 case round=>
  obtain⟨k,hk,rfl,kA,hb⟩:=hrel;have nA:=zB kA;clear kA;by_cases pA:k<aA.length
  ·have dC:(k:Int)<(aA.length:Int):=(by omega);obtain⟨b1,off,rfl,q0,q1⟩:=(Hn.out.zRX hb).zRb pA;by_cases hg:tm<zh aA k
   ·have hd:decide (tm<zh aA k)=true:=(by simp[hg]);have Hg:=zB hg;clear hg;go_wp2
    go_quiet (fail)
    go_wp2;go_ret;exact⟨zG.no fun hA=>absurd ((zKD _ _ _ _).2 hA k pA).1 (by have:=Hg.out;omega),zg (zA dA hb) _⟩
   ·have hd:decide (tm<zh aA k)=false:=(by simp;omega);have Hg:=zB (show zh aA k<=tm by omega);clear hg;go_wp2_with fail;go_region_held3 (fun w'=>w'.cell? ⟨b1,off+k*2,none⟩=some (.int .i64 (zf aA k))/\w'.cell? ⟨b1,off+k*2+1,none⟩=some (.int .i64 (zh aA k))) (go_keep)
     (first | (go_at_call 142;refine(zDQ _ bA.length 0 w4.heap.size (zf bA) (zh bA) (zf aA k) (zh aA k) _ ?_).mono ?_;(exact(Ho.out.zRX hb).zRX ((Below.refl _ _).drew));rintro e w6 ⟨⟨t6,rfl,jB⟩,rA⟩;have z1:=(rA.cell (p:=⟨b1,off+k*2,none⟩) (zD q0)).trans q0;have z2:=(rA.cell (p:=⟨b1,off+k*2+1,none⟩) (zD q1)).trans q1))
    have nB:=qd hb rA;have cC:=zB (jB.trans zBa);clear jB rA z1 z2 q0 q1 hd;have mA:(t6 == decide (zh aA k<=t))=true↔((zf aA k,zh aA k)∈bA↔zh aA k<=t):=by
     have ho:=cC.out;cases t6<;>simp_all
    have jA:=zB mA;clear mA;cases hc:(t6 == decide (zh aA k<=t))
    ·go_wp2;go_ret;exact⟨zG.no fun hA=>absurd (jA.out.2 ((zKD _ _ _ _).2 hA k pA).2) (by simp[hc]),zA dA nB⟩
    ·go_wp2;go_roundw
     case rel=>exact⟨k+1,by omega,by go_num,zo pA nA.out ⟨Hg.out,jA.out.1 hc⟩,nB⟩
     case measure=>simp[intOf];omega
  ·obtain rfl:k=aA.length:=(by omega);go_wp2;go_ret;exact⟨zG.yes ((zKD _ _ _ _).1 nA.out),zA dA hb⟩
theorem zKd{l m:List (Int×Int)}{k:Nat}(hk:k<l.length)(h:(zf l k,zh l k)∈m):zAV (l.take (k+1)) m=zAV (l.take k) m:=by
 unfold zf zh at h;rw[yD hk]at h;unfold zAV;rw[List.take_succ_eq_append_getElem hk,List.filter_append,List.filter_cons];simp only[List.filter_nil];rw[if_neg (by simp;exact h),List.append_nil]
theorem zH9{l m:List (Int×Int)}{k:Nat}(hk:k<l.length)(h:(zf l k,zh l k)∉m):zAV (l.take (k+1)) m=zAV (l.take k) m ++ [(zf l k,zh l k)]:=by
 unfold zf zh at h ⊢;rw[yD hk]at h ⊢;unfold zAV;rw[List.take_succ_eq_append_getElem hk,List.filter_append,List.filter_cons];simp only[List.filter_nil];rw[if_pos (by simp;exact h)]
theorem zML(l m:List (Int×Int))(k:Nat):(zAV (l.take k) m).length<=k:=by
 unfold zAV;exact Nat.le_trans (List.length_filter_le _ _) (by rw[List.length_take];omega)
theorem zG6(v0 v1 v2 v3 vd:Value)(lo hi gC tB dn:Nat)(ds db:Nat->Int)(W:zH)(x rs rb:Int)(dA aA:List (Int×Int))(w:World)(h:zk w lo hi v0 v1 v2 v3 W)(hD:zU w gC tB vd dn ds db)(hR:zx W.zRd)(hT:qH W.zRd rs rb)(hA:qH W.zRd (zN W x).rs (zN W x).rb)(hP:zCo W)(oA:dA=zR W.zRd rs rb)(lA:aA=zR W.zRd (zN W x).rs (zN W x).rb) :
  Calls Tryz.prog 72 #[zz v0 v1 v2 v3 W,.int .i64 x,.agg #[.int .i64 rs,.int .i64 rb],vd] w fun e w'=>zG (zDi dn ds db (zAV aA dA)) e/\Below w.heap.size w w':=by
 have Hp:=zB h;have HR:=zB hR;have HT:=zB hT;have HA:=zB hA;have HP:=zB hP;have gA:=zB oA;have nA:=zB lA;have HD:=zB hD;clear h hR hT hA hP oA lA hD;have ha:=zC w (.cells #[v0,v1,.int .i64 W.time,.int .i64 W.next,v2,v3] 37);have hB:=zi.zRZ w v0 v1 (.int .i64 W.time) (.int .i64 W.next) v2 v3 37;have jB:=zC (w.alloc (.cells #[v0,v1,.int .i64 W.time,.int .i64 W.next,v2,v3] 37)) (.cells #[.int .i64 rs,.int .i64 rb] 61);have hX:=zc.zRZ (w.alloc (.cells #[v0,v1,.int .i64 W.time,.int .i64 W.next,v2,v3] 37)) (.int .i64 rs) (.int .i64 rb) 61;have eB:=hB.zRX jB;have bB:=zA ha jB;have cC:(w.alloc (.cells #[v0,v1,.int .i64 W.time,.int .i64 W.next,v2,v3] 37)).heap.size=w.heap.size+1:=World.size_alloc _ _;rw[cC]at hX;clear ha jB hB;go_enter Tryz.func72,Tryz.ntmps72;go_wp2_with fail;generalize ((w.alloc (.cells #[v0,v1,.int .i64 W.time,.int .i64 W.next,v2,v3] 37)).alloc (.cells #[.int .i64 rs,.int .i64 rb] 61))=W0 at hX eB bB ⊢;refine(zAw v0 v1 v2 _ lo hi W x W0 (Hp.out.zRX bB)).mono ?_;rintro e w1 ⟨s,b,t,rfl,hF,aB⟩;have hq:=zF3 HP.out hF;have lC:=zB (show qH W.zRd s b by rw[hq.1,hq.2.1];exact HA.out);have HF:=zB (show aA=zR W.zRd s b by rw[nA.out,hq.1,hq.2.1]);clear hq nA HA;have rB:=hX.zRX aB;have eC:=eB.zRX aB;have dC:=zA bB aB;have cB:=zC w1 (.cells #[.int .i64 s,.int .i64 b] 61);have mC:=zB (zc.zRZ w1 (.int .i64 s) (.int .i64 b) 61);have dB:=zB (rB.zRX cB);have pB:=zB (eC.zRX cB);have jA:=zA dC cB;clear hX eB bB aB cC hF rB eC dC cB;obtain⟨⟨y0,y1⟩,⟨y2,y3⟩⟩:=mC.out;obtain⟨⟨z0,z1⟩,⟨z2,z3⟩⟩:=dB.out;obtain⟨⟨x0,x1⟩,⟨x2,x3⟩,⟨x4,x5⟩,⟨x6,x7⟩,⟨x8,x9⟩,⟨fB,oB⟩⟩:=pB.out;go_wp2_with fail;generalize w1.alloc (.cells #[.int .i64 s,.int .i64 b] 61)=w3 at *;refine(ye v0 v1 lo hi W.zRd s b w3 (Hp.out.zRd.zRX jA) HR.out lC.out).mono ?_;rintro e w4 ⟨vo,rfl,vB,tA⟩;have ho:=(vB.atW (by have:=qL W.zRd s b;omega));have sB:=zB (dB.out.zRX tA);have bC:=zB (pB.out.zRX tA);have kA:=zA jA tA;clear vB tA dB pB mC jA x0 x1 x2 x3 x4 x5 x6 x7 x8 x9 fB oB y0 y1 y2 y3 z0 z1 z2 z3;obtain⟨⟨z0,z1⟩,⟨z2,z3⟩⟩:=sB.out;obtain⟨⟨x0,x1⟩,⟨x2,x3⟩,⟨x4,x5⟩,⟨x6,x7⟩,⟨x8,x9⟩,⟨fB,oB⟩⟩:=bC.out;go_wp2_with fail;refine(ye v0 v1 lo hi W.zRd rs rb w4 (Hp.out.zRd.zRX kA) HR.out HT.out).mono ?_;rintro e w5 ⟨vn,rfl,jC,kB⟩;have hn:=(jC.atW (by have:=qL W.zRd rs rb;omega));have vA:=ho.zRX kB;have rA:=zA kA kB;clear jC kB sB bC kA ho x0 x1 x2 x3 x4 x5 x6 x7 x8 x9 fB oB z0 z1 z2 z3;have HL:=zB (show dA.length<=73/\aA.length<=73 by rw[gA.out,HF.out];exact⟨qL _ _ _,qL _ _ _⟩);rw[<-gA.out]at hn;rw[<-HF.out]at vA;clear HF lC HT gA HR HP;obtain⟨mo,ao,co,rfl,fD,_⟩:=id vA;have cD:aA.length<=73:=HL.out.2;have Hn:=zB hn;have Ho:=zB vA;have vC:=zB (HD.out.zRX rA);clear hn vA HD;unfold maxLen at mo;obtain⟨i0,fC,lB⟩:=Option.map_eq_some_iff.1 zA1;simp only[Prod.mk.injEq]at lB;have HI:=zB (And.intro fC lB);clear fC lB;have iC:=zB (zC w5 (.cells #[] 61));have aC:=zB (show zw (w5.alloc (.cells #[] 61)) w5.heap.size (.slice (some ⟨w5.heap.size,0,none⟩) 0 0) [] from World.ownsRow_lit (e:=61) (size:=2) w5 #[] 0 (Nat.le_refl _) (by unfold maxLen;omega) rfl);go_wp2
 go_loopw [13,14] (fun vw i wr=>∃k:Nat,k<=aA.length/\i = .int .i64 k/\zw wr w5.heap.size vw (zAV (aA.take k) dA)/\Below w5.heap.size w5 wr) (fun _ i _=>aA.length - (intOf i).toNat)
 case atStart=>exact⟨0,Nat.zero_le _,rfl,by rw[List.take_zero];exact aC.out,iC.out⟩
 case round=>
  obtain⟨k,hk,rfl,pA,hb⟩:=hrel;have cA:=zB pA;clear pA aC iC;by_cases gB:k<aA.length
  ·have rC:(k:Int)<(aA.length:Int):=(by omega);obtain⟨b1,off,rfl,q0,q1⟩:=(Ho.out.zRX hb).zRb gB;go_wp2_with fail;refine(zDQ _ dA.length 0 w5.heap.size (zf dA) (zh dA) (zf aA k) (zh aA k) _ (Hn.out.zRX hb)).mono ?_;rintro e w6 ⟨⟨t6,rfl,mA⟩,fA⟩;have z0:=(fA.cell (p:=⟨b1,off+k*2,none⟩) (zD q0)).trans q0;have z1:=(fA.cell (p:=⟨b1,off+k*2+1,none⟩) (zD q1)).trans q1;have iB:=zA hb fA;have bA:=zB (cA.out.zRX fA);have nB:=zB (mA.trans zBa);clear mA fA q0 q1 cA;cases t6
   ·have mB:=zC w6 (.cells #[.int .i64 (zf aA k),.int .i64 (zh aA k)] 61);have eA:=zB (bA.out.zRX mB);have kC:=zA iB mB;have eD:=iB.size;have dD:(w6.alloc (.cells #[.int .i64 (zf aA k),.int .i64 (zh aA k)] 61)).heap.size=w6.heap.size+1:=World.size_alloc _ _;have HN:=zB (World.news_of_block (heap_alloc_last w6 (.cells #[.int .i64 (zf aA k),.int .i64 (zh aA k)] 61)));have pC:=zML aA dA k;clear mB bA;go_wp2_with (first
     | (at_builtin;refine wpList_append_lies _ rfl _ _ 62 rfl w5.heap.size 61 i0 (.agg #[.int .i64 0,.int .i64 0]) 2 16 (by kernel_rfl) HI.out.1 HI.out.2.1 HI.out.2.2.1 HI.out.2.2.2 rfl (by decide) _ _ _ rfl eA.out ⟨w6.heap.size,0,none⟩ 1 1 [.int .i64 (zf aA k),.int .i64 (zh aA k)] rfl rfl HN.out (by simp[Value.oneCell']) (by decide) (by unfold maxLen;omega) (by omega) (by omega) _ rfl ?_;intro g' tC w8 sA iA nC oC)
     | go_in)
    go_roundw
    case rel=>exact⟨k+1,by omega,by go_num,by rw[zH9 gB (fun h=>absurd (nB.out.2 h) (by simp))];exact zw.next sA,kC.grown iA kC.size (fun q hq=>(eA.out.lt hq).1)⟩
    case measure=>simp[intOf];omega
   ·have Hm:=zB (nB.out.1 rfl);clear nB;go_wp2;go_roundw
    case rel=>exact⟨k+1,by omega,by go_num,by rw[zKd gB Hm.out];exact bA.out,iB⟩
    case measure=>simp[intOf];omega
  ·obtain rfl:k=aA.length:=(by omega);have hw:=cA.out;rw[List.take_length]at hw;have bD:(zAV aA dA).length<=aA.length:=List.length_filter_le _ _;have sC:=hw.atW (by omega);clear hw cA;go_wp2_with fail;refine(zGV vd _ dn gC tB _ 0 wr.heap.size ds db _ _ wr (vC.out.zRX hb) sC).mono ?_;rintro e w6 ⟨⟨t6,rfl,mA⟩,fA⟩;have aD:=zB mA;clear mA;go_wp2;go_ret;exact⟨⟨t6,rfl,aD.out⟩,zA rA (zA hb fA)⟩
def zCr(W:zH)(i:Nat):Prop:=zNc (yS W (zO W i)) (zC5 W (zO W i)) (zN W (zO W i).zRh).time (zO W i).time
theorem zBJ.snap{W:zH}(h:zBJ W){k:Nat}(hk:k<W.pn):qH W.zRd (W.zRe k).rs (W.zRe k).rb:=by
 have:=h.tree k (by unfold zq;omega);rw[qQ hk]at this;exact this
theorem zBJ.set{W:zH}(h:zBJ W){k:Nat}(hk:k<W.sn):qH W.zRd (W.zRg k).rs (W.zRg k).rb:=by
 have:=h.tree (W.pn+k) (by unfold zq;omega);rw[yF]at this;exact this
theorem zLR{v0 v1 v2 v3:Value}{lo hi:Nat}{W:zH}{w:World}(h:zk w lo hi v0 v1 v2 v3 W)(hT:zBJ W)(hP:zCo W){k:Nat}(hk:k<W.pn)(w':World)(hb:Below w.heap.size w w') :
  Calls Tryz.prog 144 #[zz v0 v1 v2 v3 W,.int .i64 (W.zRe k).zRh,.agg #[.int .i64 (W.zRe k).rs,.int .i64 (W.zRe k).rb],.int .i64 (W.zRe k).time] w' fun e aA=>zG (zCr W k) e/\Below w'.heap.size w' aA:=by
 unfold zCr;rw[qQ hk];exact zFH v0 v1 v2 v3 lo hi W _ _ _ _ _ _ _ w' (h.zRX hb) hT.right (hT.snap hk) (hT.old _) hP rfl rfl rfl
theorem zNC{v0 v1 v2 v3:Value}{lo hi:Nat}{W:zH}{w:World}(h:zk w lo hi v0 v1 v2 v3 W)(hT:zBJ W)(hP:zCo W){k:Nat}(hk:k<W.sn)(w':World)(hb:Below w.heap.size w w') :
  Calls Tryz.prog 144 #[zz v0 v1 v2 v3 W,.int .i64 (W.zRg k).zRh,.agg #[.int .i64 (W.zRg k).rs,.int .i64 (W.zRg k).rb],.int .i64 W.time] w' fun e aA=>zG (zCr W (W.pn+k)) e/\Below w'.heap.size w' aA:=by
 unfold zCr;rw[yF];exact zFH v0 v1 v2 v3 lo hi W _ _ _ _ _ _ _ w' (h.zRX hb) hT.right (hT.set hk) (hT.old _) hP rfl rfl rfl
theorem zMP(v0 v1 v2 v3:Value)(lo hi:Nat)(W:zH)(w:World)(h:zk w lo hi v0 v1 v2 v3 W)(hT:zBJ W)(hP:zCo W) :
  Calls Tryz.prog 76 #[zz v0 v1 v2 v3 W] w fun e w'=>zG (∀i,i<zq W->zCr W i) e/\Below w.heap.size w w':=by
 have Hp:=zB h;have HT:=zB hT;have HP:=zB hP;obtain⟨m1,a,c,rfl,mc,_⟩:=id h.zRe;obtain⟨m2,a',c',rfl,lA,_⟩:=id h.zRg;unfold maxLen at m1 m2;clear h hT hP;have ha:=zC w (.cells #[v0,v1,.int .i64 W.time,.int .i64 W.next,.slice a' W.sn c',.slice a W.pn c] 37);have HB:=zB (zi.zRZ w v0 v1 (.int .i64 W.time) (.int .i64 W.next) (.slice a' W.sn c') (.slice a W.pn c) 37);go_enter Tryz.func76,Tryz.ntmps76;go_wp2
 go_loopw [3] (fun i wr=>∃k:Nat,k<=W.pn/\i = .int .i64 k/\(∀j,j<k->zCr W j)/\zi wr w.heap.size v0 v1 (.int .i64 W.time) (.int .i64 W.next) (.slice a' W.sn c') (.slice a W.pn c)/\Below w.heap.size w wr) (fun i _=>W.pn - (intOf i).toNat)
 case atStart=>exact⟨0,Nat.zero_le _,rfl,fun j hj=>absurd hj (Nat.not_lt_zero _),HB.out,ha⟩
 case round=>
  obtain⟨k,hk,rfl,cA,hX,hb⟩:=hrel;have bA:=zB cA;have HX:=zB hX;clear cA hX ha HB;obtain⟨⟨x0,x1⟩,⟨x2,x3⟩,⟨x4,x5⟩,⟨x6,x7⟩,⟨x8,x9⟩,⟨kA,gA⟩⟩:=HX.out;by_cases dA:k<W.pn
  ·have iA:(k:Int)<(W.pn:Int):=(by omega);have Hc:=zB (zLR (Hp.out.zRX hb) HT.out HP.out dA);obtain⟨b,off,vd,rfl,hs⟩:=(Hp.out.zRe.zRX hb).cells dA;have q3:=hs.c3;have q4:=hs.c4;have q5:=hs.c5;have q6:=hs.c6;clear hs x1 x3 x5 x7 x9 gA;go_wp2_with fail;go_region_held3 (fun w'=>w'.cell? ⟨w.heap.size,0,none⟩=some v0/\w'.cell? ⟨w.heap.size,1,none⟩=some v1/\w'.cell? ⟨w.heap.size,2,none⟩=some (.int .i64 W.time)/\w'.cell? ⟨w.heap.size,3,none⟩=some (.int .i64 W.next)/\w'.cell? ⟨w.heap.size,4,none⟩=some (.slice a' W.sn c')/\w'.cell? ⟨w.heap.size,5,none⟩=some (.slice (some ⟨b,off,none⟩) W.pn c)/\w'.cell? ⟨b,off+k*8+3,none⟩=some (.int .i64 (W.zRe k).zRh)/\w'.cell? ⟨b,off+k*8+4,none⟩=some (.int .i64 (W.zRe k).time)/\w'.cell? ⟨b,off+k*8+5,none⟩=some (.int .i64 (W.zRe k).rs)/\w'.cell? ⟨b,off+k*8+6,none⟩=some (.int .i64 (W.zRe k).rb)) (go_keep)
    (first | (go_at_call 144;refine(Hc.out _ ?_).mono ?_;(exact(Below.refl _ _).drew);rintro e w6 ⟨⟨t6,rfl,fA⟩,aA⟩;obtain⟨⟨y0,_⟩,⟨y1,_⟩,⟨y2,_⟩,⟨y3,_⟩,⟨y4,_⟩,⟨y5,_⟩⟩:=HX.out.zRX (zK aA);have z3:=(aA.cell (p:=⟨b,off+k*8+3,none⟩) (zD q3)).trans q3;have z4:=(aA.cell (p:=⟨b,off+k*8+4,none⟩) (zD q4)).trans q4;have z5:=(aA.cell (p:=⟨b,off+k*8+5,none⟩) (zD q5)).trans q5;have z6:=(aA.cell (p:=⟨b,off+k*8+6,none⟩) (zD q6)).trans q6))
   have eA:=qd hb aA;have jA:=zB (HX.out.zRX (zK aA));have Ht:=zB fA;clear fA aA z3 z4 z5 z6 y0 y1 y2 y3 y4 y5 q3 q4 q5 q6 HX;cases t6
   ·have Hn:=zB (show ¬zCr W k from fun hA=>absurd (Ht.out.2 hA) (by simp));clear Ht;go_wp2;go_ret;exact⟨zG.no fun hA=>Hn.out (hA k (by unfold zq;omega)),eA⟩
   ·have Hn:=zB (Ht.out.1 rfl);clear Ht;go_wp2;go_roundw
    case rel=>exact⟨k+1,by omega,by go_num,zo dA bA.out Hn.out,jA.out,eA⟩
    case measure=>simp[intOf];omega
  ·obtain rfl:k=W.pn:=(by omega);go_wp2
   go_loopw [4] (fun i wr=>∃k:Nat,k<=W.sn/\i = .int .i64 k/\(∀j,j<W.pn+k->zCr W j)/\zi wr w.heap.size v0 v1 (.int .i64 W.time) (.int .i64 W.next) (.slice a' W.sn c') (.slice a W.pn c)/\Below w.heap.size w wr) (fun i _=>W.sn - (intOf i).toNat)
   case atStart=>exact⟨0,Nat.zero_le _,rfl,bA.out,HX.out,hb⟩
   case round=>
    clear x0 x1 x2 x3 x4 x5 x6 x7 x8 x9 kA gA HX hb bA;obtain⟨k,hk,rfl,cA,hX,hb⟩:=hrel;have bA:=zB cA;have HX:=zB hX;clear cA hX;obtain⟨⟨x0,x1⟩,⟨x2,x3⟩,⟨x4,x5⟩,⟨x6,x7⟩,⟨x8,x9⟩,⟨kA,gA⟩⟩:=HX.out;by_cases dA:k<W.sn
    ·have iA:(k:Int)<(W.sn:Int):=(by omega);have Hc:=zB (zNC (Hp.out.zRX hb) HT.out HP.out dA);obtain⟨b,off,vd,rfl,hs⟩:=(Hp.out.zRg.zRX hb).cells dA;have q3:=hs.c2;have q5:=hs.c3;have q6:=hs.c4;clear hs x1 x3 x5 x7 x9 gA;go_wp2_with fail;go_region_held3 (fun w'=>w'.cell? ⟨w.heap.size,0,none⟩=some v0/\w'.cell? ⟨w.heap.size,1,none⟩=some v1/\w'.cell? ⟨w.heap.size,2,none⟩=some (.int .i64 W.time)/\w'.cell? ⟨w.heap.size,3,none⟩=some (.int .i64 W.next)/\w'.cell? ⟨w.heap.size,4,none⟩=some (.slice (some ⟨b,off,none⟩) W.sn c')/\w'.cell? ⟨w.heap.size,5,none⟩=some (.slice a W.pn c)/\w'.cell? ⟨b,off+k*6+2,none⟩=some (.int .i64 (W.zRg k).zRh)/\w'.cell? ⟨b,off+k*6+3,none⟩=some (.int .i64 (W.zRg k).rs)/\w'.cell? ⟨b,off+k*6+4,none⟩=some (.int .i64 (W.zRg k).rb)) (go_keep)
      (first | (go_at_call 144;refine(Hc.out _ ?_).mono ?_;(exact(Below.refl _ _).drew);rintro e w6 ⟨⟨t6,rfl,fA⟩,aA⟩;obtain⟨⟨y0,_⟩,⟨y1,_⟩,⟨y2,_⟩,⟨y3,_⟩,⟨y4,_⟩,⟨y5,_⟩⟩:=HX.out.zRX (zK aA);have z3:=(aA.cell (p:=⟨b,off+k*6+2,none⟩) (zD q3)).trans q3;have z5:=(aA.cell (p:=⟨b,off+k*6+3,none⟩) (zD q5)).trans q5;have z6:=(aA.cell (p:=⟨b,off+k*6+4,none⟩) (zD q6)).trans q6))
     have eA:=qd hb aA;have jA:=zB (HX.out.zRX (zK aA));have Ht:=zB fA;clear fA aA z3 z5 z6 y0 y1 y2 y3 y4 y5 q3 q5 q6 HX;cases t6
     ·have Hn:=zB (show ¬zCr W (W.pn+k)from fun hA=>absurd (Ht.out.2 hA) (by simp));clear Ht;go_wp2;go_ret;exact⟨zG.no fun hA=>Hn.out (hA _ (by unfold zq;omega)),eA⟩
     ·have Hn:=zB (Ht.out.1 rfl);clear Ht;go_wp2;go_roundw
      case rel=>
       refine⟨k+1,by omega,by go_num,fun j hj=>?_,jA.out,eA⟩;by_cases e:j=W.pn+k
       ·subst e;exact Hn.out
       ·exact bA.out j (by omega)
      case measure=>simp[intOf];omega
    ·obtain rfl:k=W.sn:=(by omega);go_wp2;go_ret;exact⟨zG.yes bA.out,hb⟩
def yV(w:World)(R n:Nat)(f:Nat->Bool):Prop:=∀i,i<n->zW w R i (.bool (f i))
theorem yV.zRX{w w':World}{R n:Nat}{f:Nat->Bool}(h:yV w R n f)(t:Below w.heap.size w w'):yV w' R n f:=fun i hi=>(h i hi).zRX t
theorem yV.put{w:World}{R n:Nat}{f:Nat->Bool}(h:yV w R n f){k:Nat}(c:Bool):yV (w.setCell ⟨R,k,none⟩ (.bool c)) R n (fun i=>if i=k then c else f i):=fun i hi=>by
 by_cases e:i=k
 ·subst e;show zW _ R i (.bool (if i=i then c else f i));rw[if_pos rfl];exact(h i hi).set _
 ·show zW _ R i (.bool (if i=k then c else f i));rw[if_neg e];exact(h i hi).zRY _ (Or.inr (fun h=>e h.symm))
theorem zQS(z:Value)(n:Nat){i:Nat}(hi:i<n):(madeCells #[z] n)[i]?=some z:=by
 simp[madeCells,hi,Nat.mod_one]
theorem yV.zRZ(w:World)(n:Nat)(t:TypeId):yV (w.alloc (.cells (madeCells #[.bool false] n) t)) w.heap.size n (fun _=>false):=fun i hi=>by
 have hb:(w.alloc (.cells (madeCells #[Value.bool false] n) t)).heap[w.heap.size]?=some (.cells (madeCells #[.bool false] n) t):=heap_alloc_new _ _;exact zJ hb (zQS _ _ hi)
theorem zPI:(Tryz.prog.info? 4).map (fun i=>(i.zero,i.size,i.bytes))=some (some (.bool false),1,1):=by kernel_rfl
theorem zEb(n:Nat)(hn:n<=1000)(w:World):(Instr.makeSlice 123 (.int .i64 (n:Int)) (.int .i64 (n:Int))).run Tryz.prog w = .ok (.slice (some ⟨w.heap.size,0,none⟩) n n) (w.alloc (.cells (madeCells #[.bool false] n) 4)):=
 run_make_row' 123 4 (.bool false) 1 (by kernel_rfl) zPI rfl .i64 .i64 n (by omega) (by omega) w
def zFP(W:zH)(s:Nat):Prop:=∃m,m<zq W/\∃b,((s:Int),b)∈yS W (zO W m)
def zBb(W:zH)(i:Nat):Int×Int:=if i<W.sn then((W.zRg i).rs,(W.zRg i).rb)else((W.zRe (i - W.sn)).rs,(W.zRe (i - W.sn)).rb)
def zCH(W:zH)(n:Nat):List (Int×Int):=(List.range n).map (zBb W)
theorem zBq(W:zH)(n:Nat):(zCH W n).length=n:=by simp[zCH]
theorem zG9(W:zH)(n:Nat):zCH W (n+1)=zCH W n ++ [zBb W n]:=by simp[zCH,List.range_succ]
theorem zE1{W:zH}{i:Nat}(h:i<W.sn):zBb W i=((W.zRg i).rs,(W.zRg i).rb):=if_pos h
theorem zDz(W:zH)(i:Nat):zBb W (W.sn+i)=((W.zRe i).rs,(W.zRe i).rb):=by
 unfold zBb;rw[if_neg (by omega),show W.sn+i - W.sn=i by omega]
theorem zOB{W:zH}{n i:Nat}(h:i<n):zf (zCH W n) i=(zBb W i).1/\zh (zCH W n) i=(zBb W i).2:=by
 unfold zf zh;rw[yD (by rw[zBq];exact h)];simp[zCH]
theorem zP2{W:zH}(hT:zBJ W){i:Nat}(hi:i<W.sn+W.pn):qH W.zRd (zBb W i).1 (zBb W i).2:=by
 by_cases h:i<W.sn
 ·rw[zE1 h];exact hT.set h
 ·have:=zDz W (i - W.sn);rw[show W.sn+(i - W.sn)=i by omega]at this;rw[this];exact hT.snap (by omega)
theorem zMh{W:zH}{s:Nat}:zFP W s↔∃i,i<W.sn+W.pn/\∃b,((s:Int),b)∈zR W.zRd (zBb W i).1 (zBb W i).2:=by
 unfold zFP zq yS;constructor
 ·rintro⟨m,hm,b,h⟩;by_cases hp:m<W.pn
  ·rw[qQ hp]at h;exact⟨W.sn+m,by omega,b,by rw[zDz];exact h⟩
  ·have e:=yF W (m - W.pn);rw[show W.pn+(m - W.pn)=m by omega]at e;rw[e]at h;exact⟨m - W.pn,by omega,b,by rw[zE1 (by omega)];exact h⟩
 ·rintro⟨i,hi,b,h⟩;by_cases hs:i<W.sn
  ·rw[zE1 hs]at h;exact⟨W.pn+i,by omega,b,by rw[yF];exact h⟩
  ·have e:=zDz W (i - W.sn);rw[show W.sn+(i - W.sn)=i by omega]at e;rw[e]at h;exact⟨i - W.sn,by omega,b,by rw[qQ (by omega)];exact h⟩
def zRR(W:zH)(k:Nat)(l:List (Int×Int))(j s:Nat):Prop:=(∃i,i<k/\∃b,((s:Int),b)∈zR W.zRd (zBb W i).1 (zBb W i).2)\/∃q,q<j/\zf l q=(s:Int)
def zEW(W:zH)(k:Nat)(l:List (Int×Int))(j:Nat)(f:Nat->Bool):Prop:=∀s,f s=true↔zRR W k l j s
theorem zNM{W:zH}{k j s:Nat}{l:List (Int×Int)}{f:Nat->Bool}(h:zEW W k l j f)(hs:zf l j=(s:Int)):zEW W k l (j+1) (fun i=>if i=s then true else f i):=by
 intro i;show(if i=s then true else f i)=true↔_;by_cases e:i=s
 ·subst e;rw[if_pos rfl];exact⟨fun _=>Or.inr ⟨j,by omega,hs⟩,fun _=>rfl⟩
 ·rw[if_neg e,h i];constructor
  ·rintro(h | ⟨q,hq,h⟩)
   ·exact Or.inl h
   ·exact Or.inr ⟨q,by omega,h⟩
  ·rintro(h | ⟨q,hq,h⟩)
   ·exact Or.inl h
   ·by_cases eq:q=j
    ·subst eq;exact absurd (by omega) e
    ·exact Or.inr ⟨q,by omega,h⟩
theorem zNB{W:zH}{k:Nat}{l:List (Int×Int)}{f:Nat->Bool}(h:zEW W k l l.length f)(hl:l=zR W.zRd (zBb W k).1 (zBb W k).2):zEW W (k+1) [] 0 f:=by
 intro s;rw[h s];constructor
 ·rintro(⟨i,hi,h⟩ | ⟨q,hq,e⟩)
  ·exact Or.inl ⟨i,by omega,h⟩
  ·refine Or.inl ⟨k,by omega,(l[q]).2,?_⟩;unfold zf at e;rw[yD hq]at e;rw[<-hl,<-e];exact List.getElem_mem hq
 ·rintro(⟨i,hi,b,h2⟩ | ⟨q,hq,e⟩)
  ·by_cases e:i=k
   ·subst e;rw[<-hl]at h2;obtain⟨q,hq,e⟩:=List.getElem_of_mem h2;exact Or.inr ⟨q,hq,by unfold zf;rw[yD hq,e]⟩
   ·exact Or.inl ⟨i,by omega,b,h2⟩
  ·omega
theorem zLr{W:zH}{k:Nat}{f:Nat->Bool}(h:zEW W k [] 0 f)(l:List (Int×Int)):zEW W k l 0 f:=by
 intro s;rw[h s];constructor
 ·rintro(h | ⟨q,hq,_⟩)
  ·exact Or.inl h
  ·omega
 ·rintro(h | ⟨q,hq,_⟩)
  ·exact Or.inl h
  ·omega
theorem zIO{p:zI}{rs rb:Int}(hR:zx p)(hT:qH p rs rb){j:Nat}(hj:j<(zR p rs rb).length):∃s:Nat,zf (zR p rs rb) j=(s:Int)/\s<p.n:=by
 unfold zf;rw[yD hj];have:=(zAX hR hT (List.getElem_mem hj)).1;obtain⟨_,h0,h1,_⟩:=this;exact⟨((zR p rs rb)[j]).1.toNat,by omega,by omega⟩
theorem zi.grown{w w1:World}{b:Nat}{v0 v1 v2 v3 v4 v5:Value}{row:Option Nat}(h:zi w b v0 v1 v2 v3 v4 v5)(hg:w.grownBy w1 row)(aA:∀q,row=some q->b≠q):zi w1 b v0 v1 v2 v3 v4 v5:=by
 have hb:b<w.heap.size:=h.1.lt;refine h.zRf (S:=fun k=>row=some k) ⟨hg.os,hg.tape,hg.output,hg.size,fun k hk hs=>hg.block k hk (fun e=>hs e.symm)⟩ (fun e=>aA b e rfl)
theorem yV.grown{w w1:World}{R n:Nat}{f:Nat->Bool}{row:Option Nat}(h:yV w R n f)(hg:w.grownBy w1 row)(aA:∀q,row=some q->R≠q):yV w1 R n f:=fun i hi=>
 (h i hi).zRf (S:=fun k=>row=some k) ⟨hg.os,hg.tape,hg.output,hg.size,fun k hk hs=>hg.block k hk (fun e=>hs e.symm)⟩ (fun e=>aA R e rfl)
theorem zKH(v0 v1 v2 v3:Value)(lo hi:Nat)(W:zH)(w:World)(h:zk w lo hi v0 v1 v2 v3 W)(hT:zBJ W)(hs:W.sn<=8)(hp:W.pn<=20) :
  Calls Tryz.prog 73 #[zz v0 v1 v2 v3 W] w fun e w'=>∃R f,e = .returned (.slice (some ⟨R,0,none⟩) W.zRd.n W.zRd.n)/\w.heap.size<=R/\yV w' R W.zRd.n f/\(∀s,f s=true↔zFP W s)/\Below w.heap.size w w':=by
 have Hp:=zB h;have HT:=zB hT;obtain⟨m1,a,c,rfl,mc,_⟩:=id h.zRe;obtain⟨m2,a',c',rfl,pC,_⟩:=id h.zRg;obtain⟨m0,a0,c0,rfl,vC,_⟩:=id h.zRd.1;unfold maxLen at m0 m1 m2;have rC:W.zRd.n<=200:=hT.right.1;clear h hT;obtain⟨i0,tB,iB⟩:=Option.map_eq_some_iff.1 zA1;simp only[Prod.mk.injEq]at iB;have HI:=zB (And.intro tB iB);clear tB iB;have tC:=zEb W.zRd.n (by omega);have ha:=zC w (.cells #[.slice a0 W.zRd.n c0,v1,.int .i64 W.time,.int .i64 W.next,.slice a' W.sn c',.slice a W.pn c] 37);have lB:(w.alloc (.cells #[.slice a0 W.zRd.n c0,v1,.int .i64 W.time,.int .i64 W.next,.slice a' W.sn c',.slice a W.pn c] 37)).heap.size=w.heap.size+1:=World.size_alloc _ _;have eC:∀W1:World,W1=w.alloc (.cells #[.slice a0 W.zRd.n c0,v1,.int .i64 W.time,.int .i64 W.next,.slice a' W.sn c',.slice a W.pn c] 37)->zi ((W1.alloc (.cells (madeCells #[.bool false] W.zRd.n) 4)).alloc (.cells #[] 61)) w.heap.size (.slice a0 W.zRd.n c0) v1 (.int .i64 W.time) (.int .i64 W.next) (.slice a' W.sn c') (.slice a W.pn c)/\yV ((W1.alloc (.cells (madeCells #[.bool false] W.zRd.n) 4)).alloc (.cells #[] 61)) (w.heap.size+1) W.zRd.n (fun _=>false)/\zw ((W1.alloc (.cells (madeCells #[.bool false] W.zRd.n) 4)).alloc (.cells #[] 61)) (w.heap.size+2) (.slice (some ⟨w.heap.size+1+1,0,none⟩) 0 0) []/\Below w.heap.size w ((W1.alloc (.cells (madeCells #[.bool false] W.zRd.n) 4)).alloc (.cells #[] 61)):=by
  rintro W1 rfl;have hB:=zi.zRZ w (.slice a0 W.zRd.n c0) v1 (.int .i64 W.time) (.int .i64 W.next) (.slice a' W.sn c') (.slice a W.pn c) 37;have hR:=yV.zRZ (w.alloc (.cells #[.slice a0 W.zRd.n c0,v1,.int .i64 W.time,.int .i64 W.next,.slice a' W.sn c',.slice a W.pn c] 37)) W.zRd.n 4;rw[lB]at hR;generalize w.alloc (.cells #[.slice a0 W.zRd.n c0,v1,.int .i64 W.time,.int .i64 W.next,.slice a' W.sn c',.slice a W.pn c] 37)=W1 at *;have b2:=zC W1 (.cells (madeCells #[.bool false] W.zRd.n) 4);have dB:(W1.alloc (.cells (madeCells #[.bool false] W.zRd.n) 4)).heap.size=w.heap.size+1+1:=(by rw[World.size_alloc,lB]);have gC:=hB.zRX b2;have iC:=zA ha b2;generalize W1.alloc (.cells (madeCells #[.bool false] W.zRd.n) 4)=W2 at *;have b3:=zC W2 (.cells #[] 61);have l3:=World.ownsRow_lit (e:=61) (size:=2) (base:=w.heap.size+2) W2 #[] 0 (by rw[dB];omega) (by unfold maxLen;omega) rfl;rw[dB]at l3;exact⟨gC.zRX b3,hR.zRX b3,l3,zA iC b3⟩
 have dC:=zB (eC _ rfl);clear eC;go_enter Tryz.func73,Tryz.ntmps73;obtain⟨⟨x0,x1⟩,⟨x2,x3⟩,⟨x4,x5⟩,⟨x6,x7⟩,⟨x8,x9⟩,⟨jA,pA⟩⟩:=zi.zRZ w (.slice a0 W.zRd.n c0) v1 (.int .i64 W.time) (.int .i64 W.next) (.slice a' W.sn c') (.slice a W.pn c) 37;go_wp2;clear x0 x1 x2 x3 x4 x5 x6 x7 x8 x9 jA pA ha
 go_loopw [4,5] (fun vr i wr=>∃k:Nat,k<=W.sn/\i = .int .i64 k/\zw wr (w.heap.size+2) vr (zCH W k)/\zi wr w.heap.size (.slice a0 W.zRd.n c0) v1 (.int .i64 W.time) (.int .i64 W.next) (.slice a' W.sn c') (.slice a W.pn c)/\yV wr (w.heap.size+1) W.zRd.n (fun _=>false)/\Below w.heap.size w wr) (fun _ i _=>W.sn - (intOf i).toNat)
 case atStart=>
  obtain⟨s1,s2,s3,s4⟩:=dC.out;exact⟨0,Nat.zero_le _,rfl,s3,s1,s2,s4⟩
 case round=>
  clear dC lB;obtain⟨k,hk,rfl,dA,hX,hR,hb⟩:=hrel;have aA:=zB dA;have HX:=zB hX;have eA:=zB hR;clear dA hX hR;obtain⟨⟨x0,x1⟩,⟨x2,x3⟩,⟨x4,x5⟩,⟨x6,x7⟩,⟨x8,x9⟩,⟨jA,pA⟩⟩:=HX.out;by_cases lA:k<W.sn
  ·have bB:(k:Int)<(W.sn:Int):=(by omega);obtain⟨b,off,vd,rfl,kA⟩:=(Hp.out.zRg.zRX hb).cells lA;have q3:=kA.c3;have q4:=kA.c4;clear kA;have gA:=zC wr (.cells #[.int .i64 (W.zRg k).rs,.int .i64 (W.zRg k).rb] 61);have cA:=zB (aA.out.zRX gA);have rA:=zB (HX.out.zRX gA);have sA:=zB (eA.out.zRX gA);have aB:=zA hb gA;have dB:=zD jA;have lC:=(eA.out);have mC:(wr.alloc (.cells #[.int .i64 (W.zRg k).rs,.int .i64 (W.zRg k).rb] 61)).heap.size=wr.heap.size+1:=World.size_alloc _ _;have HN:=zB (World.news_of_block (heap_alloc_last wr (.cells #[.int .i64 (W.zRg k).rs,.int .i64 (W.zRg k).rb] 61)));have oA:=zBq W k;clear gA aA HX eA lC;go_wp2_with (first
    | (at_builtin;refine wpList_append_lies _ rfl _ _ 62 rfl (w.heap.size+2) 61 i0 (.agg #[.int .i64 0,.int .i64 0]) 2 16 (by kernel_rfl) HI.out.1 HI.out.2.1 HI.out.2.2.1 HI.out.2.2.2 rfl (by decide) _ _ _ rfl cA.out ⟨wr.heap.size,0,none⟩ 1 1 [.int .i64 (W.zRg k).rs,.int .i64 (W.zRg k).rb] rfl rfl HN.out (by simp[Value.oneCell']) (by decide) (by unfold maxLen;omega) (by omega) (by omega) _ rfl ?_;intro g' nB w8 iA bA fB kB)
    | go_in)
   go_roundw
   case rel=>
    have nA:∀q,Value.ownBlock _=some q->w.heap.size+2<=q:=fun q hq=>(cA.out.lt hq).1
    refine⟨k+1,by omega,by go_num,?_,rA.out.grown bA (fun q hq=>by have:=nA q hq;omega),sA.out.grown bA (fun q hq=>by have:=nA q hq;omega),aB.grown bA aB.size (fun q hq=>by have:=nA q hq;omega)⟩;rw[zG9,zE1 lA];have cB:=zw.next iA;rw[oA]at cB;exact cB
   case measure=>simp[intOf];omega
  ·obtain rfl:k=W.sn:=(by omega);go_wp2
   go_loopw [4,6] (fun vr i wr=>∃k:Nat,k<=W.pn/\i = .int .i64 k/\zw wr (w.heap.size+2) vr (zCH W (W.sn+k))/\zi wr w.heap.size (.slice a0 W.zRd.n c0) v1 (.int .i64 W.time) (.int .i64 W.next) (.slice a' W.sn c') (.slice a W.pn c)/\yV wr (w.heap.size+1) W.zRd.n (fun _=>false)/\Below w.heap.size w wr) (fun _ i _=>W.pn - (intOf i).toNat)
   case atStart=>exact⟨0,Nat.zero_le _,rfl,aA.out,HX.out,eA.out,hb⟩
   case round=>
    clear x0 x1 x2 x3 x4 x5 x6 x7 x8 x9 jA pA HX hb aA eA;obtain⟨k,hk,rfl,dA,hX,hR,hb⟩:=hrel;have aA:=zB dA;have HX:=zB hX;have eA:=zB hR;clear dA hX hR;obtain⟨⟨x0,x1⟩,⟨x2,x3⟩,⟨x4,x5⟩,⟨x6,x7⟩,⟨x8,x9⟩,⟨jA,pA⟩⟩:=HX.out;by_cases lA:k<W.pn
    ·have bB:(k:Int)<(W.pn:Int):=(by omega);obtain⟨b,off,vd,rfl,kA⟩:=(Hp.out.zRe.zRX hb).cells lA;have q3:=kA.c5;have q4:=kA.c6;clear kA;have gA:=zC wr (.cells #[.int .i64 (W.zRe k).rs,.int .i64 (W.zRe k).rb] 61);have cA:=zB (aA.out.zRX gA);have rA:=zB (HX.out.zRX gA);have sA:=zB (eA.out.zRX gA);have aB:=zA hb gA;have dB:=zD jA;have mC:(wr.alloc (.cells #[.int .i64 (W.zRe k).rs,.int .i64 (W.zRe k).rb] 61)).heap.size=wr.heap.size+1:=World.size_alloc _ _;have HN:=zB (World.news_of_block (heap_alloc_last wr (.cells #[.int .i64 (W.zRe k).rs,.int .i64 (W.zRe k).rb] 61)));have oA:=zBq W (W.sn+k);clear gA aA HX eA;go_wp2_with (first
      | (at_builtin;refine wpList_append_lies _ rfl _ _ 62 rfl (w.heap.size+2) 61 i0 (.agg #[.int .i64 0,.int .i64 0]) 2 16 (by kernel_rfl) HI.out.1 HI.out.2.1 HI.out.2.2.1 HI.out.2.2.2 rfl (by decide) _ _ _ rfl cA.out ⟨wr.heap.size,0,none⟩ 1 1 [.int .i64 (W.zRe k).rs,.int .i64 (W.zRe k).rb] rfl rfl HN.out (by simp[Value.oneCell']) (by decide) (by unfold maxLen;omega) (by omega) (by omega) _ rfl ?_;intro g' nB w8 iA bA fB kB)
      | go_in)
     go_roundw
     case rel=>
      have nA:∀q,Value.ownBlock _=some q->w.heap.size+2<=q:=fun q hq=>(cA.out.lt hq).1
      refine⟨k+1,by omega,by go_num,?_,rA.out.grown bA (fun q hq=>by have:=nA q hq;omega),sA.out.grown bA (fun q hq=>by have:=nA q hq;omega),aB.grown bA aB.size (fun q hq=>by have:=nA q hq;omega)⟩;rw[show W.sn+(k+1)=W.sn+k+1 from rfl,zG9,zDz];have cB:=zw.next iA;rw[oA]at cB;exact cB
     case measure=>simp[intOf];omega
    ·obtain rfl:k=W.pn:=(by omega);go_wp2;obtain⟨ar,cr,rfl,sC⟩:=zY aA.out;rw[zBq]at *;clear x0 x1 x2 x3 x4 x5 x6 x7 x8 x9 jA pA
     go_loopw [7] (fun i wr=>∃k:Nat,∃f,k<=W.sn+W.pn/\i = .int .i64 k/\zw wr (w.heap.size+2) (.slice ar (W.sn+W.pn) cr) (zCH W (W.sn+W.pn))/\zi wr w.heap.size (.slice a0 W.zRd.n c0) v1 (.int .i64 W.time) (.int .i64 W.next) (.slice a' W.sn c') (.slice a W.pn c)/\yV wr (w.heap.size+1) W.zRd.n f/\zEW W k [] 0 f/\Below w.heap.size w wr) (fun i _=>W.sn+W.pn - (intOf i).toNat)
     case atStart=>exact⟨0,fun _=>false,Nat.zero_le _,rfl,aA.out,HX.out,eA.out,fun s=>⟨fun h=>absurd h (by simp),fun h=>by rcases h with⟨i,hi,_⟩ | ⟨q,hq,_⟩<;>omega⟩,hb⟩
     case round=>
      clear HX hb aA eA;obtain⟨k,f,hk,rfl,dA,hX,hR,hm,hb⟩:=hrel;have aA:=zB dA;have HX:=zB hX;have eA:=zB hR;have Hm:=zB hm;clear dA hX hR hm;by_cases lA:k<W.sn+W.pn
      ·have bB:(k:Int)<(W.sn+W.pn:Int):=(by omega);have vB:=zP2 HT.out lA;have oB:=zOB (W:=W) lA;have fA:=(aA.out.atW (by rw[zBq];omega));rw[zBq]at fA;obtain⟨b,off,rfl,q0,q1⟩:=fA.zRb lA;rw[oB.1]at q0;rw[oB.2]at q1;have jB:=zB vB;clear vB oB;generalize sB:(zBb W k).1=rs at *;generalize bC:(zBb W k).2=rb at *;have mB:=zB (And.intro sB bC);clear sB bC fA;obtain⟨⟨x0,x1⟩,⟨x2,x3⟩,⟨x4,x5⟩,⟨x6,x7⟩,⟨x8,x9⟩,⟨jA,pA⟩⟩:=HX.out;clear x1 x3 x4 x5 x6 x7 x8 x9 jA pA;go_wp2_with fail;go_region_held3 (fun w'=>w'.cell? ⟨w.heap.size,0,none⟩=some (.slice a0 W.zRd.n c0)/\w'.cell? ⟨w.heap.size,1,none⟩=some v1/\w'.cell? ⟨b,off+k*2,none⟩=some (.int .i64 rs)/\w'.cell? ⟨b,off+k*2+1,none⟩=some (.int .i64 rb)) (go_keep)
        (first | (go_at_call 141;refine(ye _ v1 lo hi W.zRd rs rb _ ?_ HT.out.right jB.out).mono ?_;(exact(Hp.out.zRd.zRX hb).zRX (Below.refl _ _).drew);rintro e w6 ⟨vl,rfl,cC,mA⟩;obtain⟨⟨y0,_⟩,⟨y1,_⟩,_⟩:=HX.out.zRX (zK mA);have z0:=(mA.cell (p:=⟨b,off+k*2,none⟩) (zD q0)).trans q0;have z1:=(mA.cell (p:=⟨b,off+k*2+1,none⟩) (zD q1)).trans q1))
       have vA:=qd hb mA;have rA:=zB (HX.out.zRX (zK mA));have sA:=zB (eA.out.zRX (zK mA));have cA:=zB (aA.out.zRX (zK mA));have gB:0<W.zRd.n->w.heap.size+1<wr.heap.size:=fun h0=>(eA.out 0 h0).lt
       have Hl:=zB cC;clear mA cC z0 z1 y0 y1 q0 q1 x0 x2 HX eA aA;have pB:wr.drew.heap.size=wr.heap.size:=rfl;rw[pB]at Hl;obtain⟨al,cl,rfl,bD⟩:=zY Hl.out;have aD:=qL W.zRd rs rb;have nC:=zB (fun j (hj:j<(zR W.zRd rs rb).length)=>zIO HT.out.right jB.out hj);have HE:=zB (show zR W.zRd rs rb=zR W.zRd (zBb W k).1 (zBb W k).2 by rw[mB.out.1,mB.out.2]);generalize zR W.zRd rs rb=l at *;clear mB jB pB;go_wp2
       go_loopw [9] (fun i tA=>∃j:Nat,∃f,j<=l.length/\i = .int .i64 j/\zw tA wr.heap.size (.slice al l.length cl) l/\zw tA (w.heap.size+2) (.slice (some ⟨b,off,none⟩) (W.sn+W.pn) cr) (zCH W (W.sn+W.pn))/\zi tA w.heap.size (.slice a0 W.zRd.n c0) v1 (.int .i64 W.time) (.int .i64 W.next) (.slice a' W.sn c') (.slice a W.pn c)/\yV tA (w.heap.size+1) W.zRd.n f/\zEW W k l j f/\Below w.heap.size w tA) (fun i _=>l.length - (intOf i).toNat)
       case atStart=>exact⟨0,f,Nat.zero_le _,rfl,Hl.out,cA.out,rA.out,sA.out,zLr Hm.out l,vA⟩
       case round=>
        clear rA sA cA Hl vA Hm f;obtain⟨j,f,hj,rfl,aC,dA,hX,hR,hm,vA⟩:=hrel;have Hl:=zB aC;have aA:=zB dA;have HX:=zB hX;have eA:=zB hR;have Hm:=zB hm;clear dA hX hR hm aC;by_cases rB:j<l.length
        ·have jC:(j:Int)<(l.length:Int):=(by omega);obtain⟨b2,fC,rfl,q0,q1⟩:=(Hl.out.atW (by omega)).zRb rB;obtain⟨s,eB,kA⟩:=nC.out j rB;have oC:(s:Int)<(W.zRd.n:Int):=(by omega);rw[eB]at q0;obtain⟨y0,y1⟩:=eA.out s kA;have kC:=zB eB;clear eB q1;go_wp2;go_roundw
         case rel=>exact⟨j+1,_,by omega,by go_num,Hl.out.put (gB (by omega)) _,aA.out.put (by omega) _,HX.out.zRf (zF.put _ (w.heap.size+1) s _) (by omega),eA.out.put true,zNM Hm.out kC.out,vA.setCell (show w.heap.size<=w.heap.size+1 by omega) _⟩
         case measure=>simp[intOf];omega
        ·obtain rfl:j=l.length:=(by omega);go_wp2;go_roundw
         case rel=>exact⟨k+1,f,by omega,by go_num,aA.out,HX.out,eA.out,zNB Hm.out HE.out,vA⟩
         case measure=>simp[intOf];omega
      ·obtain rfl:k=W.sn+W.pn:=(by omega);go_wp2;go_ret;refine⟨_,f,rfl,by omega,eA.out,fun s=>?_,hb⟩;rw[Hm.out s,zMh];constructor
       ·rintro(h | ⟨q,hq,_⟩)
        ·exact h
        ·omega
       ·exact Or.inl
def zKE(W:zH)(k:Nat):Prop:=∀i,i<k->∀j,j<i->∀x,x∈zFg W (zO W i)->∀y,y∈zFg W (zO W j)->x.1≠y.1
def zC2(W:zH)(k:Nat)(now old:List (Int×Int))(j:Nat):Prop:=∀q,q<j->(zf now q,zh now q)∉old->∀i,i<k->∀y,y∈zFg W (zO W i)->zf now q≠y.1
def zRN(W:zH)(k:Nat)(now old:List (Int×Int))(j s:Nat):Prop:=(∃i,i<k/\∃b,((s:Int),b)∈zFg W (zO W i))\/∃q,q<j/\zf now q=(s:Int)/\(zf now q,zh now q)∉old
def zBn(W:zH)(k:Nat)(now old:List (Int×Int))(j:Nat)(f:Nat->Bool):Prop:=∀s,f s=true↔zRN W k now old j s
theorem zHy{W:zH}{k:Nat}{aA bA:List (Int×Int)}(h:zKE W k)(hn:aA=yS W (zO W k))(ho:bA=zC5 W (zO W k))(hr:zC2 W k aA bA aA.length):zKE W (k+1):=by
 intro i hi j hj x hx y hy;by_cases e:i=k
 ·subst e;obtain⟨h1,h2⟩:=List.mem_filter.1 hx;rw[<-hn]at h1;rw[<-ho]at h2;obtain⟨q,hq,e⟩:=List.getElem_of_mem h1;have:=hr q hq;unfold zf zh at this;rw[yD hq,e]at this;exact this (by simpa using h2) j hj y hy
 ·exact h i (by omega) j hj x hx y hy
theorem zJs{W:zH}{k j:Nat}{aA bA:List (Int×Int)}{f:Nat->Bool}(h:zBn W k aA bA j f)(cA:(zf aA j,zh aA j)∈bA):zBn W k aA bA (j+1) f:=by
 intro s;rw[h s];constructor
 ·rintro(h | ⟨q,hq,h⟩)
  ·exact Or.inl h
  ·exact Or.inr ⟨q,by omega,h⟩
 ·rintro(h | ⟨q,hq,h1,h2⟩)
  ·exact Or.inl h
  ·by_cases e:q=j
   ·subst e;exact absurd cA h2
   ·exact Or.inr ⟨q,by omega,h1,h2⟩
theorem zJO{W:zH}{k j s:Nat}{aA bA:List (Int×Int)}{f:Nat->Bool}(h:zBn W k aA bA j f)(hs:zf aA j=(s:Int))(cA:(zf aA j,zh aA j)∉bA):zBn W k aA bA (j+1) (fun i=>if i=s then true else f i):=by
 intro i;show(if i=s then true else f i)=true↔_;by_cases e:i=s
 ·subst e;rw[if_pos rfl];exact⟨fun _=>Or.inr ⟨j,by omega,hs,cA⟩,fun _=>rfl⟩
 ·rw[if_neg e,h i];constructor
  ·rintro(h | ⟨q,hq,h⟩)
   ·exact Or.inl h
   ·exact Or.inr ⟨q,by omega,h⟩
  ·rintro(h | ⟨q,hq,h,h2⟩)
   ·exact Or.inl h
   ·by_cases eq:q=j
    ·subst eq;exact absurd (by omega) e
    ·exact Or.inr ⟨q,by omega,h,h2⟩
theorem zLa{W:zH}{k j:Nat}{aA bA:List (Int×Int)}(h:zC2 W k aA bA j)(cA:(zf aA j,zh aA j)∈bA):zC2 W k aA bA (j+1):=by
 intro q hq;by_cases e:q=j
 ·subst e;exact fun h=>absurd cA h
 ·exact h q (by omega)
theorem zMQ{W:zH}{k j s:Nat}{aA bA:List (Int×Int)}{f:Nat->Bool}(h:zC2 W k aA bA j)(hS:zBn W k aA bA j f)(hs:zf aA j=(s:Int))(hf:f s=false):zC2 W k aA bA (j+1):=by
 intro q hq;by_cases e:q=j
 ·subst e;intro _ i hi y hy ey;have:f s=true:=(hS s).2 (Or.inl ⟨i,hi,y.2,by rw[<-hs,ey];exact hy⟩);rw[hf]at this;exact absurd this (by simp)
 ·exact h q (by omega)
theorem zJv{W:zH}{k:Nat}{aA bA:List (Int×Int)}{f:Nat->Bool}(h:zBn W k aA bA aA.length f)(hn:aA=yS W (zO W k))(ho:bA=zC5 W (zO W k)):zBn W (k+1) [] [] 0 f:=by
 intro s;rw[h s];constructor
 ·rintro(⟨i,hi,h⟩ | ⟨q,hq,e,h2⟩)
  ·exact Or.inl ⟨i,by omega,h⟩
  ·refine Or.inl ⟨k,by omega,(aA[q]).2,?_⟩;unfold zf zh at h2;unfold zf at e;rw[yD hq]at e h2;refine List.mem_filter.2 ⟨?_,?_⟩
   ·rw[<-hn,<-e];exact List.getElem_mem hq
   ·rw[<-ho,<-e];simpa using h2
 ·rintro(⟨i,hi,b,h2⟩ | ⟨q,hq,_⟩)
  ·by_cases e:i=k
   ·subst e;obtain⟨h3,h4⟩:=List.mem_filter.1 h2;rw[<-hn]at h3;rw[<-ho]at h4;obtain⟨q,hq,e⟩:=List.getElem_of_mem h3;refine Or.inr ⟨q,hq,?_⟩;unfold zf zh;rw[yD hq,e];exact⟨rfl,by simpa using h4⟩
   ·exact Or.inl ⟨i,by omega,b,h2⟩
  ·omega
theorem zIJ{W:zH}{k:Nat}{f:Nat->Bool}(h:zBn W k [] [] 0 f)(bA aA:List (Int×Int)):zBn W k bA aA 0 f:=by
 intro s;rw[h s];constructor
 ·rintro(h | ⟨q,hq,_⟩)
  ·exact Or.inl h
  ·omega
 ·rintro(h | ⟨q,hq,_⟩)
  ·exact Or.inl h
  ·omega
theorem zIL{W:zH}{k j s:Nat}{aA bA:List (Int×Int)}{f:Nat->Bool}(hT:zBJ W)(hk:k<zq W)(hn:aA=yS W (zO W k))(ho:bA=zC5 W (zO W k))(hS:zBn W k aA bA j f)(hj:j<aA.length)(hs:zf aA j=(s:Int))(dA:(zf aA j,zh aA j)∉bA)(hf:f s=true):¬zGk W:=by
 intro hA;rcases(hS s).1 hf with⟨i,hi,b,h⟩ | ⟨q,hq,e,h2⟩
 ·refine hA k hk i hi (zf aA j,zh aA j) ?_ _ h hs;refine List.mem_filter.2 ⟨?_,by rw[<-ho];simpa using dA⟩;rw[<-hn];unfold zf zh;rw[yD hj];exact List.getElem_mem hj
 ·have cA:=zBK hT.right (l:=aA) (fun x hx=>by rw[hn]at hx;exact(zAX hT.right (hT.tree k hk) hx).1) (by rw[hn];exact zAk hT.right (hT.tree k hk)) (by rw[hn];have:=qL W.zRd (zO W k).rs (zO W k).rb;unfold yS;omega);exact cA.2.2 j hj q hq (by rw[e,hs])
theorem zKJ(v0 v1 v2 v3:Value)(lo hi:Nat)(W:zH)(w:World)(h:zk w lo hi v0 v1 v2 v3 W)(hT:zBJ W)(hP:zCo W)(hs:W.sn<=8)(hp:W.pn<=20) :
  Calls Tryz.prog 77 #[zz v0 v1 v2 v3 W] w fun e w'=>zG (zGk W) e/\Below w.heap.size w w':=by
 have Hp:=zB h;have HT:=zB hT;have HP:=zB hP;obtain⟨m1,a,c,rfl,mc,-⟩:=id h.zRe;obtain⟨m2,a',c',rfl,mE,-⟩:=id h.zRg;obtain⟨m0,a0,c0,rfl,rE,-⟩:=id h.zRd.1;unfold maxLen at m0 m1 m2;have oE:W.zRd.n<=200:=hT.right.1;clear h hT hP;have nE:=zEb W.zRd.n (by omega);have ha:=zC w (.cells #[.slice a0 W.zRd.n c0,v1,.int .i64 W.time,.int .i64 W.next,.slice a' W.sn c',.slice a W.pn c] 37);have tD:(w.alloc (.cells #[.slice a0 W.zRd.n c0,v1,.int .i64 W.time,.int .i64 W.next,.slice a' W.sn c',.slice a W.pn c] 37)).heap.size=w.heap.size+1:=World.size_alloc _ _;have cE:∀W1:World,W1=w.alloc (.cells #[.slice a0 W.zRd.n c0,v1,.int .i64 W.time,.int .i64 W.next,.slice a' W.sn c',.slice a W.pn c] 37)->zi (W1.alloc (.cells (madeCells #[.bool false] W.zRd.n) 4)) w.heap.size (.slice a0 W.zRd.n c0) v1 (.int .i64 W.time) (.int .i64 W.next) (.slice a' W.sn c') (.slice a W.pn c)/\yV (W1.alloc (.cells (madeCells #[.bool false] W.zRd.n) 4)) (w.heap.size+1) W.zRd.n (fun _=>false)/\Below w.heap.size w (W1.alloc (.cells (madeCells #[.bool false] W.zRd.n) 4))/\w.heap.size+2<=(W1.alloc (.cells (madeCells #[.bool false] W.zRd.n) 4)).heap.size:=by
  rintro W1 rfl;have hB:=zi.zRZ w (.slice a0 W.zRd.n c0) v1 (.int .i64 W.time) (.int .i64 W.next) (.slice a' W.sn c') (.slice a W.pn c) 37;have hR:=yV.zRZ (w.alloc (.cells #[.slice a0 W.zRd.n c0,v1,.int .i64 W.time,.int .i64 W.next,.slice a' W.sn c',.slice a W.pn c] 37)) W.zRd.n 4;rw[tD]at hR;generalize w.alloc (.cells #[.slice a0 W.zRd.n c0,v1,.int .i64 W.time,.int .i64 W.next,.slice a' W.sn c',.slice a W.pn c] 37)=W1 at *;have b2:=zC W1 (.cells (madeCells #[.bool false] W.zRd.n) 4);exact⟨hB.zRX b2,hR,zA ha b2,by rw[World.size_alloc,tD];omega⟩
 have aE:=zB (cE _ rfl);clear cE;go_enter Tryz.func77,Tryz.ntmps77;obtain⟨⟨x0,x1⟩,⟨x2,x3⟩,⟨x4,x5⟩,⟨x6,x7⟩,⟨x8,x9⟩,⟨mA,nA⟩⟩:=zi.zRZ w (.slice a0 W.zRd.n c0) v1 (.int .i64 W.time) (.int .i64 W.next) (.slice a' W.sn c') (.slice a W.pn c) 37;go_wp2;clear x0 x1 x2 x3 x4 x5 x6 x7 x8 x9 mA nA ha
 go_loopw [4] (fun i wr=>∃k:Nat,∃f,k<=W.pn+W.sn/\i = .int .i64 k/\zi wr w.heap.size (.slice a0 W.zRd.n c0) v1 (.int .i64 W.time) (.int .i64 W.next) (.slice a' W.sn c') (.slice a W.pn c)/\yV wr (w.heap.size+1) W.zRd.n f/\zBn W k [] [] 0 f/\zKE W k/\Below w.heap.size w wr/\w.heap.size+2<=wr.heap.size) (fun i _=>W.pn+W.sn - (intOf i).toNat)
 case atStart=>
  obtain⟨s1,s2,s3,s4⟩:=aE.out;exact⟨0,fun _=>false,Nat.zero_le _,rfl,s1,s2,fun s=>⟨fun h=>absurd h (by simp),fun h=>by rcases h with⟨i,hi,_⟩ | ⟨q,hq,_⟩<;>omega⟩,fun i hi=>absurd hi (Nat.not_lt_zero _),s3,s4⟩
 case round=>
  clear aE tD;obtain⟨k,f,hk,rfl,hX,hR,hS,hA,hb,hz⟩:=hrel;have HX:=zB hX;have eA:=zB hR;have HS:=zB hS;have HA:=zB hA;clear hX hR hS hA;obtain⟨⟨x0,x1⟩,⟨x2,x3⟩,⟨x4,x5⟩,⟨x6,x7⟩,⟨x8,x9⟩,⟨mA,nA⟩⟩:=HX.out;by_cases pE:k<W.pn+W.sn
  ·have fE:(k:Int)<(W.pn+W.sn:Int):=(by omega);by_cases dE:k<W.pn
   ·have iD:(k:Int)<(W.pn:Int):=(by omega);obtain⟨b,off,vd,rfl,gB⟩:=(Hp.out.zRe.zRX hb).cells dE;have q3:=gB.c3;have q5:=gB.c5;have q6:=gB.c6;have Hm:=zB (show(zO W k).zRh=(W.zRe k).zRh/\(zO W k).rs=(W.zRe k).rs/\(zO W k).rb=(W.zRe k).rb from by rw[qQ dE];exact⟨rfl,rfl,rfl⟩);clear gB;have bA:=zC wr (.cells #[.int .i64 0,.int .i64 0] 61);have cD:=zB (HX.out.zRX bA);have pC:=zB (zc.zRZ wr (.int .i64 0) (.int .i64 0) 61);have lD:=zB (eA.out.zRX bA);have r3:=(bA.cell (zD q3)).trans q3;have r5:=(bA.cell (zD q5)).trans q5;have r6:=(bA.cell (zD q6)).trans q6;have mD:=zA hb bA;have pD:(wr.alloc (.cells #[.int .i64 0,.int .i64 0] 61)).heap.size=wr.heap.size+1:=World.size_alloc _ _;have rD:b<wr.heap.size:=zD q3;have gC:w.heap.size≠wr.heap.size:=(by omega);have rB:b≠wr.heap.size:=(by omega);obtain⟨⟨y0,y1⟩,⟨y2,y3⟩,⟨y4,y5⟩,⟨y6,y7⟩,⟨y8,y9⟩,⟨kD,jD⟩⟩:=cD.out;obtain⟨⟨p0,p1⟩,⟨p2,p3⟩⟩:=pC.out;generalize vC:(W.zRe k).zRh=x at *;generalize oA:(W.zRe k).rs=rs at *;generalize tA:(W.zRe k).rb=rb at *;have oD:=zB (And.intro vC (And.intro oA tA));clear vC oA tA;have dB:=zC wr (.cells #[.int .i64 rs,.int .i64 rb] 61);have fB:=zB (HX.out.zRX dB);have cC:=zB (zc.zRZ wr (.int .i64 rs) (.int .i64 rb) 61);have pB:=zB (eA.out.zRX dB);have iB:=zA hb dB;obtain⟨⟨z0,z1⟩,⟨z2,z3⟩,⟨z4,z5⟩,⟨z6,z7⟩,⟨z8,z9⟩,⟨nD,vD⟩⟩:=fB.out;go_wp2_with fail;clear x0 x1 x2 x3 x4 x5 x6 x7 x8 x9 mA nA y0 y1 y2 y3 y4 y5 y6 y7 y8 y9 kD jD z0 z1 z2 z3 z4 z5 z6 z7 z8 z9 nD vD p0 p1 p2 p3 r3 r5 r6 q3 q5 q6 cD pC lD mD bA pD gC rB rD dB;have eD:w.heap.size+2<=(wr.alloc (.cells #[.int .i64 rs,.int .i64 rb] 61)).heap.size:=(by rw[World.size_alloc];omega);generalize wr.alloc (.cells #[.int .i64 rs,.int .i64 rb] 61)=W3 at fB cC pB iB eD ⊢;refine(zAw _ v1 _ _ lo hi W x W3 (Hp.out.zRX iB)).mono ?_;rintro e w1 ⟨s,bb,t,rfl,hF,iA⟩;have hq:=zF3 HP.out hF;have mC:=zB (show qH W.zRd s bb by rw[hq.1,hq.2.1];exact HT.out.old x);have sB:=zB (show qH W.zRd rs rb by have:=HT.out.tree k (by unfold zq;omega);rw[Hm.out.2.1,Hm.out.2.2]at this;exact this);have HE:=zB (show zR W.zRd rs rb=yS W (zO W k)/\zR W.zRd s bb=zC5 W (zO W k)by unfold yS zC5;rw[Hm.out.1,Hm.out.2.1,Hm.out.2.2,hq.1,hq.2.1];exact⟨rfl,rfl⟩);have gA:=zC w1 (.cells #[.int .i64 s,.int .i64 bb] 61);have cB:=zB ((fB.out.zRX iA).zRX gA);have vB:=zB ((cC.out.zRX iA).zRX gA);have tB:=zB ((pB.out.zRX iA).zRX gA);have mB:=zB (zc.zRZ w1 (.int .i64 s) (.int .i64 bb) 61);have eB:=zA (zA iB iA) gA;have eC:w.heap.size+2<=(w1.alloc (.cells #[.int .i64 s,.int .i64 bb] 61)).heap.size:=(by have h1:=iA.size;have h2:=gA.size;omega);clear hq hF iA gA fB cC pB iB eD oD Hm;obtain⟨⟨x0,x1⟩,⟨x2,x3⟩,⟨x4,x5⟩,⟨x6,x7⟩,⟨x8,x9⟩,⟨mA,nA⟩⟩:=cB.out;obtain⟨⟨p0,p1⟩,⟨p2,p3⟩⟩:=mB.out;clear x4 x5 x6 x7 x8 x9 mA nA x1 x3 p1 p3;go_wp2_with fail;clear x0 x2 p0 p2;generalize w1.alloc (.cells #[.int .i64 s,.int .i64 bb] 61)=w4 at cB vB tB mB eB eC ⊢;refine(ye _ v1 lo hi W.zRd s bb w4 (Hp.out.zRd.zRX eB) HT.out.right mC.out).mono ?_;rintro e w5 ⟨vo,rfl,rA,lA⟩;have bC:=zB (cB.out.zRX lA);have aD:=zB (vB.out.zRX lA);have rC:=zB (tB.out.zRX lA);have kA:=zB (rA.mono eC);have aC:=zA eB lA;have oC:w.heap.size+2<=w5.heap.size:=(by have h1:=lA.size;omega);clear rA lA cB vB tB mB eB eC mC;obtain⟨⟨x0,x1⟩,⟨x2,x3⟩,⟨x4,x5⟩,⟨x6,x7⟩,⟨x8,x9⟩,⟨mA,nA⟩⟩:=bC.out;obtain⟨⟨p0,p1⟩,⟨p2,p3⟩⟩:=aD.out;clear x4 x5 x6 x7 x8 x9 mA nA x1 x3 p1 p3;go_wp2_with fail;clear x0 x2 p0 p2;refine(ye _ v1 lo hi W.zRd rs rb w5 (Hp.out.zRd.zRX aC) HT.out.right sB.out).mono ?_;rintro e w6 ⟨vn,rfl,aB,jA⟩;have lC:=zB (bC.out.zRX jA);have sC:=zB (rC.out.zRX jA);have vA:=zB (kA.out.zRX jA);have cA:=zB (aB.mono oC);have tC:=zA aC jA;have jC:w.heap.size+2<=w6.heap.size:=(by have h1:=jA.size;omega);have sD:=zB (fun j (hj:j<(zR W.zRd rs rb).length)=>zIO HT.out.right sB.out hj);have lE:=qL W.zRd rs rb;have jE:=qL W.zRd s bb;clear aB jA bC aD rC kA aC oC sB;obtain⟨an,cn,rfl,gE⟩:=zY cA.out;generalize zR W.zRd rs rb=now at *;generalize zR W.zRd s bb=old at *;go_wp2
    go_loopw [11] (fun i fA=>∃j:Nat,∃f,j<=now.length/\i = .int .i64 j/\zw fA (w.heap.size+2) vo old/\zw fA (w.heap.size+2) (.slice an now.length cn) now/\zi fA w.heap.size (.slice a0 W.zRd.n c0) v1 (.int .i64 W.time) (.int .i64 W.next) (.slice a' W.sn c') (.slice (some ⟨b,off,none⟩) W.pn c)/\yV fA (w.heap.size+1) W.zRd.n f/\zBn W k now old j f/\zC2 W k now old j/\Below w.heap.size w fA/\w.heap.size+2<=fA.heap.size) (fun i _=>now.length - (intOf i).toNat)
    case atStart=>exact⟨0,f,Nat.zero_le _,rfl,vA.out,cA.out,lC.out,sC.out,zIJ HS.out _ _,fun q hq=>absurd hq (Nat.not_lt_zero _),tC,jC⟩
    case round=>
     clear lC sC vA cA tC jC HS HX eA hb hz;obtain⟨j,f,hj,rfl,rA,aB,hX,hR,hS,dD,hb,hz⟩:=hrel;have kA:=zB rA;have fC:=zB aB;have HX:=zB hX;have eA:=zB hR;have HS:=zB hS;have dC:=zB dD;clear rA aB hX hR hS dD;by_cases lB:j<now.length
     ·have gD:(j:Int)<(now.length:Int):=(by omega);obtain⟨b2,oB,rfl,q0,q1⟩:=(fC.out.atW (by omega)).zRb lB;obtain⟨sl,kC,fD⟩:=sD.out j lB;have iE:(sl:Int)<(W.zRd.n:Int):=(by omega);have kB:=zB kC;clear kC;go_wp2_with fail;refine(zDQ _ old.length 0 _ (zf old) (zh old) (zf now j) (zh now j) _ (kA.out.atW (by omega))).mono ?_;rintro e w7 ⟨⟨t7,rfl,nC⟩,aA⟩;have jB:=zB (nC.trans zBa);have z0:=(aA.cell (p:=⟨b2,oB+j*2,none⟩) (zD q0)).trans q0;have sA:=zB (kA.out.zRX aA);have pA:=zB (fC.out.zRX aA);have bD:=zB (HX.out.zRX aA);have nB:=zB (eA.out.zRX aA);have dA:=zA hb aA;have bB:w.heap.size+2<=w7.heap.size:=(by have h1:=aA.size;omega);clear nC aA q0 q1 kA fC HX eA hb hz;cases t7
      ·have Hn:=zB (show(zf now j,zh now j)∉old from fun h=>absurd (jB.out.2 h) (by simp));clear jB;rw[kB.out]at z0;obtain⟨y0,y1⟩:=nB.out sl fD;cases hfs:f sl
       ·have iC:=zB hfs;rw[hfs]at y0;clear hfs;go_wp2;go_roundw
        case rel=>exact⟨j+1,_,by omega,by go_num,sA.out.put (by omega) _,pA.out.put (by omega) _,bD.out.zRf (zF.put _ (w.heap.size+1) sl _) (by omega),nB.out.put true,zJO HS.out kB.out Hn.out,zMQ dC.out HS.out kB.out iC.out,dA.setCell (show w.heap.size<=w.heap.size+1 by omega) _,by rw[World.size_setCell];exact bB⟩
        case measure=>simp[intOf];omega
       ·have iC:=zB hfs;rw[hfs]at y0;clear hfs;go_wp2;go_ret;exact⟨zG.no (zIL HT.out (by unfold zq;omega) HE.out.1 HE.out.2 HS.out lB kB.out Hn.out iC.out),dA⟩
      ·have Hn:=zB (jB.out.1 rfl);clear jB;go_wp2;go_roundw
       case rel=>exact⟨j+1,f,by omega,by go_num,sA.out,pA.out,bD.out,nB.out,zJs HS.out Hn.out,zLa dC.out Hn.out,dA,bB⟩
       case measure=>simp[intOf];omega
     ·obtain rfl:j=now.length:=(by omega);go_wp2;go_roundw
      case rel=>exact⟨k+1,f,by omega,by go_num,HX.out,eA.out,zJv HS.out HE.out.1 HE.out.2,zHy HA.out HE.out.1 HE.out.2 dC.out,hb,hz⟩
      case measure=>simp[intOf];omega
   ·have iD:¬(k:Int)<(W.pn:Int):=(by omega);have bE:k - W.pn<W.sn:=(by omega);have kE:(k:Int) - (W.pn:Int)=((k - W.pn:Nat):Int):=(Int.ofNat_sub (by omega)).symm;have eE:((k - W.pn:Nat):Int)<(W.sn:Int):=Int.ofNat_lt.2 bE;obtain⟨b,off,vd,rfl,gB⟩:=(Hp.out.zRg.zRX hb).cells bE;have q3:=gB.c2;have q5:=gB.c3;have q6:=gB.c4;have Hm:=zB (show(zO W k).zRh=(W.zRg (k - W.pn)).zRh/\(zO W k).rs=(W.zRg (k - W.pn)).rs/\(zO W k).rb=(W.zRg (k - W.pn)).rb from by have e:=yF W (k - W.pn);rw[show W.pn+(k - W.pn)=k by omega]at e;rw[e];exact⟨rfl,rfl,rfl⟩);clear gB;have bA:=zC wr (.cells #[.int .i64 0,.int .i64 0] 61);have cD:=zB (HX.out.zRX bA);have pC:=zB (zc.zRZ wr (.int .i64 0) (.int .i64 0) 61);have lD:=zB (eA.out.zRX bA);have r3:=(bA.cell (zD q3)).trans q3;have r5:=(bA.cell (zD q5)).trans q5;have r6:=(bA.cell (zD q6)).trans q6;have mD:=zA hb bA;have pD:(wr.alloc (.cells #[.int .i64 0,.int .i64 0] 61)).heap.size=wr.heap.size+1:=World.size_alloc _ _;have rD:b<wr.heap.size:=zD q3;have gC:w.heap.size≠wr.heap.size:=(by omega);have rB:b≠wr.heap.size:=(by omega);obtain⟨⟨y0,y1⟩,⟨y2,y3⟩,⟨y4,y5⟩,⟨y6,y7⟩,⟨y8,y9⟩,⟨kD,jD⟩⟩:=cD.out;obtain⟨⟨p0,p1⟩,⟨p2,p3⟩⟩:=pC.out;generalize vC:(W.zRg (k - W.pn)).zRh=x at *;generalize oA:(W.zRg (k - W.pn)).rs=rs at *;generalize tA:(W.zRg (k - W.pn)).rb=rb at *;have oD:=zB (And.intro vC (And.intro oA tA));clear vC oA tA;have dB:=zC wr (.cells #[.int .i64 rs,.int .i64 rb] 61);have fB:=zB (HX.out.zRX dB);have cC:=zB (zc.zRZ wr (.int .i64 rs) (.int .i64 rb) 61);have pB:=zB (eA.out.zRX dB);have iB:=zA hb dB;obtain⟨⟨z0,z1⟩,⟨z2,z3⟩,⟨z4,z5⟩,⟨z6,z7⟩,⟨z8,z9⟩,⟨nD,vD⟩⟩:=fB.out;go_wp2_with fail;clear x0 x1 x2 x3 x4 x5 x6 x7 x8 x9 mA nA y0 y1 y2 y3 y4 y5 y6 y7 y8 y9 kD jD z0 z1 z2 z3 z4 z5 z6 z7 z8 z9 nD vD p0 p1 p2 p3 r3 r5 r6 q3 q5 q6 cD pC lD mD bA pD gC rB rD dB;have eD:w.heap.size+2<=(wr.alloc (.cells #[.int .i64 rs,.int .i64 rb] 61)).heap.size:=(by rw[World.size_alloc];omega);generalize wr.alloc (.cells #[.int .i64 rs,.int .i64 rb] 61)=W3 at fB cC pB iB eD ⊢;refine(zAw _ v1 _ _ lo hi W x W3 (Hp.out.zRX iB)).mono ?_;rintro e w1 ⟨s,bb,t,rfl,hF,iA⟩;have hq:=zF3 HP.out hF;have mC:=zB (show qH W.zRd s bb by rw[hq.1,hq.2.1];exact HT.out.old x);have sB:=zB (show qH W.zRd rs rb by have:=HT.out.tree k (by unfold zq;omega);rw[Hm.out.2.1,Hm.out.2.2]at this;exact this);have HE:=zB (show zR W.zRd rs rb=yS W (zO W k)/\zR W.zRd s bb=zC5 W (zO W k)by unfold yS zC5;rw[Hm.out.1,Hm.out.2.1,Hm.out.2.2,hq.1,hq.2.1];exact⟨rfl,rfl⟩);have gA:=zC w1 (.cells #[.int .i64 s,.int .i64 bb] 61);have cB:=zB ((fB.out.zRX iA).zRX gA);have vB:=zB ((cC.out.zRX iA).zRX gA);have tB:=zB ((pB.out.zRX iA).zRX gA);have mB:=zB (zc.zRZ w1 (.int .i64 s) (.int .i64 bb) 61);have eB:=zA (zA iB iA) gA;have eC:w.heap.size+2<=(w1.alloc (.cells #[.int .i64 s,.int .i64 bb] 61)).heap.size:=(by have h1:=iA.size;have h2:=gA.size;omega);clear hq hF iA gA fB cC pB iB eD oD Hm;obtain⟨⟨x0,x1⟩,⟨x2,x3⟩,⟨x4,x5⟩,⟨x6,x7⟩,⟨x8,x9⟩,⟨mA,nA⟩⟩:=cB.out;obtain⟨⟨p0,p1⟩,⟨p2,p3⟩⟩:=mB.out;clear x4 x5 x6 x7 x8 x9 mA nA x1 x3 p1 p3;go_wp2_with fail;clear x0 x2 p0 p2;generalize w1.alloc (.cells #[.int .i64 s,.int .i64 bb] 61)=w4 at cB vB tB mB eB eC ⊢;refine(ye _ v1 lo hi W.zRd s bb w4 (Hp.out.zRd.zRX eB) HT.out.right mC.out).mono ?_;rintro e w5 ⟨vo,rfl,rA,lA⟩;have bC:=zB (cB.out.zRX lA);have aD:=zB (vB.out.zRX lA);have rC:=zB (tB.out.zRX lA);have kA:=zB (rA.mono eC);have aC:=zA eB lA;have oC:w.heap.size+2<=w5.heap.size:=(by have h1:=lA.size;omega);clear rA lA cB vB tB mB eB eC mC;obtain⟨⟨x0,x1⟩,⟨x2,x3⟩,⟨x4,x5⟩,⟨x6,x7⟩,⟨x8,x9⟩,⟨mA,nA⟩⟩:=bC.out;obtain⟨⟨p0,p1⟩,⟨p2,p3⟩⟩:=aD.out;clear x4 x5 x6 x7 x8 x9 mA nA x1 x3 p1 p3;go_wp2_with fail;clear x0 x2 p0 p2;refine(ye _ v1 lo hi W.zRd rs rb w5 (Hp.out.zRd.zRX aC) HT.out.right sB.out).mono ?_;rintro e w6 ⟨vn,rfl,aB,jA⟩;have lC:=zB (bC.out.zRX jA);have sC:=zB (rC.out.zRX jA);have vA:=zB (kA.out.zRX jA);have cA:=zB (aB.mono oC);have tC:=zA aC jA;have jC:w.heap.size+2<=w6.heap.size:=(by have h1:=jA.size;omega);have sD:=zB (fun j (hj:j<(zR W.zRd rs rb).length)=>zIO HT.out.right sB.out hj);have lE:=qL W.zRd rs rb;have jE:=qL W.zRd s bb;clear aB jA bC aD rC kA aC oC sB;obtain⟨an,cn,rfl,gE⟩:=zY cA.out;generalize zR W.zRd rs rb=now at *;generalize zR W.zRd s bb=old at *;go_wp2
    go_loopw [11] (fun i fA=>∃j:Nat,∃f,j<=now.length/\i = .int .i64 j/\zw fA (w.heap.size+2) vo old/\zw fA (w.heap.size+2) (.slice an now.length cn) now/\zi fA w.heap.size (.slice a0 W.zRd.n c0) v1 (.int .i64 W.time) (.int .i64 W.next) (.slice (some ⟨b,off,none⟩) W.sn c') (.slice a W.pn c)/\yV fA (w.heap.size+1) W.zRd.n f/\zBn W k now old j f/\zC2 W k now old j/\Below w.heap.size w fA/\w.heap.size+2<=fA.heap.size) (fun i _=>now.length - (intOf i).toNat)
    case atStart=>exact⟨0,f,Nat.zero_le _,rfl,vA.out,cA.out,lC.out,sC.out,zIJ HS.out _ _,fun q hq=>absurd hq (Nat.not_lt_zero _),tC,jC⟩
    case round=>
     clear lC sC vA cA tC jC HS HX eA hb hz;obtain⟨j,f,hj,rfl,rA,aB,hX,hR,hS,dD,hb,hz⟩:=hrel;have kA:=zB rA;have fC:=zB aB;have HX:=zB hX;have eA:=zB hR;have HS:=zB hS;have dC:=zB dD;clear rA aB hX hR hS dD;by_cases lB:j<now.length
     ·have gD:(j:Int)<(now.length:Int):=(by omega);obtain⟨b2,oB,rfl,q0,q1⟩:=(fC.out.atW (by omega)).zRb lB;obtain⟨sl,kC,fD⟩:=sD.out j lB;have iE:(sl:Int)<(W.zRd.n:Int):=(by omega);have kB:=zB kC;clear kC;go_wp2_with fail;refine(zDQ _ old.length 0 _ (zf old) (zh old) (zf now j) (zh now j) _ (kA.out.atW (by omega))).mono ?_;rintro e w7 ⟨⟨t7,rfl,nC⟩,aA⟩;have jB:=zB (nC.trans zBa);have z0:=(aA.cell (p:=⟨b2,oB+j*2,none⟩) (zD q0)).trans q0;have sA:=zB (kA.out.zRX aA);have pA:=zB (fC.out.zRX aA);have bD:=zB (HX.out.zRX aA);have nB:=zB (eA.out.zRX aA);have dA:=zA hb aA;have bB:w.heap.size+2<=w7.heap.size:=(by have h1:=aA.size;omega);clear nC aA q0 q1 kA fC HX eA hb hz;cases t7
      ·have Hn:=zB (show(zf now j,zh now j)∉old from fun h=>absurd (jB.out.2 h) (by simp));clear jB;rw[kB.out]at z0;obtain⟨y0,y1⟩:=nB.out sl fD;cases hfs:f sl
       ·have iC:=zB hfs;rw[hfs]at y0;clear hfs;go_wp2;go_roundw
        case rel=>exact⟨j+1,_,by omega,by go_num,sA.out.put (by omega) _,pA.out.put (by omega) _,bD.out.zRf (zF.put _ (w.heap.size+1) sl _) (by omega),nB.out.put true,zJO HS.out kB.out Hn.out,zMQ dC.out HS.out kB.out iC.out,dA.setCell (show w.heap.size<=w.heap.size+1 by omega) _,by rw[World.size_setCell];exact bB⟩
        case measure=>simp[intOf];omega
       ·have iC:=zB hfs;rw[hfs]at y0;clear hfs;go_wp2;go_ret;exact⟨zG.no (zIL HT.out (by unfold zq;omega) HE.out.1 HE.out.2 HS.out lB kB.out Hn.out iC.out),dA⟩
      ·have Hn:=zB (jB.out.1 rfl);clear jB;go_wp2;go_roundw
       case rel=>exact⟨j+1,f,by omega,by go_num,sA.out,pA.out,bD.out,nB.out,zJs HS.out Hn.out,zLa dC.out Hn.out,dA,bB⟩
       case measure=>simp[intOf];omega
     ·obtain rfl:j=now.length:=(by omega);go_wp2;go_roundw
      case rel=>exact⟨k+1,f,by omega,by go_num,HX.out,eA.out,zJv HS.out HE.out.1 HE.out.2,zHy HA.out HE.out.1 HE.out.2 dC.out,hb,hz⟩
      case measure=>simp[intOf];omega
  ·obtain rfl:k=W.pn+W.sn:=(by omega);go_wp2;go_ret;exact⟨zG.yes HA.out,hb⟩
def ql(W:zH)(x:Int):Prop:=∃k,k<W.pn/\(W.zRe k).id=x
def zAS(W:zH)(x:ByteArray):Prop:=∃k,k<W.sn/\(W.zRg k).name=x
def zFG(W:zH)(i:Nat):Prop:=yI (W.zRg i).name/\(0<i->zDV (W.zRg (i - 1)).name (W.zRg i).name)/\((W.zRg i).zRh≠0->ql W (W.zRg i).zRh)/\((W.zRg i).origin≠0->ql W (W.zRg i).origin)
def zG0(W:zH)(i:Nat):Prop:=1<=(W.zRe i).id/\(W.zRe i).id<W.next/\1<=(W.zRe i).time/\(W.zRe i).time<W.time/\yI (W.zRe i).name/\zAS W (W.zRe i).set
def zGN(W:zH)(i:Nat):Prop:=(0<i->(W.zRe (i - 1)).id<(W.zRe i).id/\(W.zRe (i - 1)).time<(W.zRe i).time)/\((W.zRe i).zRh≠0->(W.zRe i).zRh<(W.zRe i).id/\ql W (W.zRe i).zRh)
def zPu(W:zH)(i j:Nat):Prop:=∀k,k<j->¬((W.zRe k).set=(W.zRe i).set/\(W.zRe k).name=(W.zRe i).name)
def zPv(W:zH)(i:Nat):Prop:=zG0 W i/\zGN W i/\zPu W i i
def zBI(W:zH):Prop:=zB6 W.time 1 900000/\zB6 W.next 1 900000/\W.sn<=8/\W.pn<=20/\(∀i,i<W.sn->zFG W i)/\∀i,i<W.pn->zPv W i
theorem qe{W:zH}{x r:Int}(h:zFv W.pn (fun k=>(W.zRe k).id=x) r):(ql W x/\0<=r/\r<W.pn/\(W.zRe r.toNat).id=x)\/(¬ql W x/\r = -1):=by
 rcases h with⟨k,hk,e,_,rfl⟩ | ⟨hn,rfl⟩
 ·exact Or.inl ⟨⟨k,hk,e⟩,by omega,by omega,by simpa using e⟩
 ·exact Or.inr ⟨fun ⟨k,hk,e⟩=>hn k hk e,rfl⟩
theorem zOa{W:zH}{x:ByteArray}{r:Int}(h:zFv W.sn (fun k=>(W.zRg k).name=x) r):(zAS W x/\0<=r)\/(¬zAS W x/\r = -1):=by
 rcases h with⟨k,hk,e,_,rfl⟩ | ⟨hn,rfl⟩
 ·exact Or.inl ⟨⟨k,hk,e⟩,by omega⟩
 ·exact Or.inr ⟨fun ⟨k,hk,e⟩=>hn k hk e,rfl⟩
def zCP(w:World)(b:Nat)(v0 v1 v2 v3 v4 v5 v6 v7:Value):Prop:=(zW w b 0 v0/\zW w b 1 v1/\zW w b 2 v2/\zW w b 3 v3)/\(zW w b 4 v4/\zW w b 5 v5/\zW w b 6 v6/\zW w b 7 v7)
theorem zCP.zRX{w w':World}{b:Nat}{v0 v1 v2 v3 v4 v5 v6 v7:Value}(h:zCP w b v0 v1 v2 v3 v4 v5 v6 v7)(t:Below w.heap.size w w'):zCP w' b v0 v1 v2 v3 v4 v5 v6 v7:=
 ⟨⟨h.1.1.zRX t,h.1.2.1.zRX t,h.1.2.2.1.zRX t,h.1.2.2.2.zRX t⟩,h.2.1.zRX t,h.2.2.1.zRX t,h.2.2.2.1.zRX t,h.2.2.2.2.zRX t⟩
theorem zCP.zRZ(w:World)(v0 v1 v2 v3 v4 v5 v6 v7:Value)(t:TypeId):zCP (w.alloc (.cells #[v0,v1,v2,v3,v4,v5,v6,v7] t)) w.heap.size v0 v1 v2 v3 v4 v5 v6 v7:=by
 have hb:(w.alloc (.cells #[v0,v1,v2,v3,v4,v5,v6,v7] t)).heap[w.heap.size]?=some (.cells #[v0,v1,v2,v3,v4,v5,v6,v7] t):=heap_alloc_new _ _;exact⟨⟨zJ hb rfl,zJ hb rfl,zJ hb rfl,zJ hb rfl⟩,zJ hb rfl,zJ hb rfl,zJ hb rfl,zJ hb rfl⟩
end Go.Proofs.YtmgeglgboadfiaaGreatDoor
