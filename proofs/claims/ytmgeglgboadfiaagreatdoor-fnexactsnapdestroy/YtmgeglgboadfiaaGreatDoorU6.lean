/- A part of the proof. -/
import Derived.Test.YtmgeglgboadfiaaGreatDoorU5
set_option linter.unusedVariables false
set_option maxRecDepth 20000
set_option maxHeartbeats 8000000
namespace Go.Proofs.YtmgeglgboadfiaaGreatDoor
open Go.RowKit Go.Maps
theorem qE.atW{w:World}{base:Nat}{v:Value}{l:List (Int×Int)}(h:qE w base v l)(hm:l.length<=1000):zR w 0 w.heap.size v l.length (zk l) (zn l):=by
 obtain⟨b,h1,h2⟩:=h.own (by unfold maxLen;omega);exact h1.at (fun h0=>⟨Nat.zero_le _,(h2 h0).2.2⟩)
def zOJ(now old:List (Int×Int))(t tm:Int)(n:Nat):Prop:=∀i,i<n->zn now i<=tm/\((zk now i,zn now i)∈old↔zn now i<=t)
theorem zIj(aA bA:List (Int×Int))(t tm:Int):zOJ aA bA t tm aA.length↔zLc aA bA t tm:=by
 constructor
 ·intro h x hx;obtain⟨j,hj,e⟩:=List.getElem_of_mem hx;have:=h j hj;unfold zk zn at this;rw[yC hj,e]at this;exact this
 ·intro h i hi;have:=h _ (List.getElem_mem hi);unfold zk zn;rw[yC hi];exact this
def zBn(W:zE):Prop:=∀k,k<W.pn->1<=(W.zPD k).id
def zIX(W:zE)(x s b t:Int):Prop:=s=(zK W x).rs/\b=(zK W x).rb/\t=(zK W x).time
theorem zEn{W:zE}{x s b t:Int}(hp:zBn W)(h:zIY W x s b t):zIX W x s b t:=by
 rcases h with⟨k,_,hk,h1,h2,h3⟩ | ⟨hn,h1,h2,h3⟩
 ·unfold zIX;rw[qx hk];exact⟨h1,h2,h3⟩
 ·have e:zK W x=yG:=by
   rcases hn with rfl | hn
   ·exact zEI (fun k hk e=>by have:=hp k hk;omega)
   ·exact zEI hn
  unfold zIX;rw[e];exact⟨h1,h2,h3⟩
theorem zEA(v0 v1 v2 v3:Value)(lo hi:Nat)(W:zE)(x rs rb tm t:Int)(aA bA:List (Int×Int))(w:World)(h:zd w lo hi v0 v1 v2 v3 W)(hR:qB W.zPE)(hT:zz W.zPE rs rb)(hA:zz W.zPE (zK W x).rs (zK W x).rb)(hP:zBn W)(mA:aA=zX W.zPE rs rb)(nA:bA=zX W.zPE (zK W x).rs (zK W x).rb)(ht:t=(zK W x).time) :
  Calls Tryz.prog 144 #[zt v0 v1 v2 v3 W,.int .i64 x,.agg #[.int .i64 rs,.int .i64 rb],.int .i64 tm] w fun e w'=>zG (zLc aA bA t tm) e/\Below w.heap.size w w':=by
 have Hp:=zB h;have HR:=zB hR;have HT:=zB hT;have HA:=zB hA;have HP:=zB hP;have iA:=zB mA;have jA:=zB nA;have mB:=zB ht;clear h hR hT hA hP mA nA ht;have ha:=zC w (.cells #[v0,v1,.int .i64 W.time,.int .i64 W.next,v2,v3] 37);have hB:=zg.new w v0 v1 (.int .i64 W.time) (.int .i64 W.next) v2 v3 37;have dB:=zC (w.alloc (.cells #[v0,v1,.int .i64 W.time,.int .i64 W.next,v2,v3] 37)) (.cells #[.int .i64 rs,.int .i64 rb] 61);have hX:=zp.new (w.alloc (.cells #[v0,v1,.int .i64 W.time,.int .i64 W.next,v2,v3] 37)) (.int .i64 rs) (.int .i64 rb) 61;have cB:=hB.zO9 dB;have rA:=zA ha dB;have aC:(w.alloc (.cells #[v0,v1,.int .i64 W.time,.int .i64 W.next,v2,v3] 37)).heap.size=w.heap.size+1:=World.size_alloc _ _;rw[aC]at hX;clear ha dB hB;go_enter Tryz.func144,Tryz.ntmps144;go_wp2_with fail;generalize ((w.alloc (.cells #[v0,v1,.int .i64 W.time,.int .i64 W.next,v2,v3] 37)).alloc (.cells #[.int .i64 rs,.int .i64 rb] 61))=W0 at hX cB rA ⊢;refine(zA1 v0 v1 v2 _ lo hi W x W0 (Hp.out.zO9 rA)).mono ?_;rintro e w1 ⟨s,b,t',rfl,hF,pA⟩;have hq:=zEn HP.out hF;obtain rfl:t=t':=mB.out.trans hq.2.2.symm;have oB:=zB (show zz W.zPE s b by rw[hq.1,hq.2.1];exact HA.out);have HF:=zB (show bA=zX W.zPE s b by rw[jA.out,hq.1,hq.2.1]);clear hq mB jA HA;have pB:=hX.zO9 pA;have nB:=cB.zO9 pA;have sB:=zA rA pA;have oA:=zC w1 (.cells #[.int .i64 s,.int .i64 b] 61);have lB:=zB (zp.new w1 (.int .i64 s) (.int .i64 b) 61);have bB:=zB (pB.zO9 oA);have aB:=zB (nB.zO9 oA);have cA:=zA sB oA;clear hX cB rA pA aC hF pB nB sB oA;obtain⟨⟨y0,y1⟩,⟨y2,y3⟩⟩:=lB.out;obtain⟨⟨z0,z1⟩,⟨z2,z3⟩⟩:=bB.out;obtain⟨⟨x0,x1⟩,⟨x2,x3⟩,⟨x4,x5⟩,⟨x6,x7⟩,⟨x8,x9⟩,⟨gB,iB⟩⟩:=aB.out;go_wp2_with fail;generalize w1.alloc (.cells #[.int .i64 s,.int .i64 b] 61)=w3 at *;refine(yh v0 v1 lo hi W.zPE s b w3 (Hp.out.zPE.zO9 cA) HR.out oB.out).mono ?_;rintro e w4 ⟨vo,rfl,vB,sA⟩;have ho:=(vB.atW (by have:=qK W.zPE s b;omega));have kB:=zB (bB.out.zO9 sA);have jB:=zB (aB.out.zO9 sA);have dA:=zA cA sA;clear vB sA bB aB lB cA x0 x1 x2 x3 x4 x5 x6 x7 x8 x9 gB iB y0 y1 y2 y3 z0 z1 z2 z3;obtain⟨⟨z0,z1⟩,⟨z2,z3⟩⟩:=kB.out;obtain⟨⟨x0,x1⟩,⟨x2,x3⟩,⟨x4,x5⟩,⟨x6,x7⟩,⟨x8,x9⟩,⟨gB,iB⟩⟩:=jB.out;go_wp2_with fail;refine(yh v0 v1 lo hi W.zPE rs rb w4 (Hp.out.zPE.zO9 dA) HR.out HT.out).mono ?_;rintro e w5 ⟨vn,rfl,tB,eB⟩;have hn:=(tB.atW (by have:=qK W.zPE rs rb;omega));have fB:=ho.zO9 eB;have eA:=zA dA eB;clear tB eB kB jB dA ho x0 x1 x2 x3 x4 x5 x6 x7 x8 x9 gB iB z0 z1 z2 z3;rw[<-iA.out]at hn;rw[<-HF.out]at fB;clear HF oB HT iA HR HP;obtain⟨mn,an,cn,rfl,eC,_⟩:=id hn;have Hn:=zB hn;have Ho:=zB fB;clear hn fB;unfold maxLen at mn;go_wp2
 go_loopw [13] (fun i wr=>∃k:Nat,k<=aA.length/\i = .int .i64 k/\zOJ aA bA t tm k/\Below w5.heap.size w5 wr) (fun i _=>aA.length - (intOf i).toNat)
 case atStart=>exact⟨0,Nat.zero_le _,rfl,fun j hj=>absurd hj (Nat.not_lt_zero _),Below.refl _ _⟩
 case round=>
  obtain⟨k,hk,rfl,kA,hb⟩:=hrel;have fA:=zB kA;clear kA;by_cases vA:k<aA.length
  ·have dC:(k:Int)<(aA.length:Int):=(by omega);obtain⟨b1,off,rfl,q0,q1⟩:=(Hn.out.zO9 hb).zPC vA;by_cases hg:tm<zn aA k
   ·have hd:decide (tm<zn aA k)=true:=(by simp[hg]);have Hg:=zB hg;clear hg;go_wp2
    go_quiet (fail)
    go_wp2;go_ret;exact⟨zG.no fun hA=>absurd ((zIj _ _ _ _).2 hA k vA).1 (by have:=Hg.out;omega),zh (zA eA hb) _⟩
   ·have hd:decide (tm<zn aA k)=false:=(by simp;omega);have Hg:=zB (show zn aA k<=tm by omega);clear hg;go_wp2_with fail;go_region_held3 (fun w'=>w'.cell? ⟨b1,off+k*2,none⟩=some (.int .i64 (zk aA k))/\w'.cell? ⟨b1,off+k*2+1,none⟩=some (.int .i64 (zn aA k))) (go_keep)
     (first | (go_at_call 142;refine(zCe _ bA.length 0 w4.heap.size (zk bA) (zn bA) (zk aA k) (zn aA k) _ ?_).mono ?_;(exact(Ho.out.zO9 hb).zO9 ((Below.refl _ _).drew));rintro e w6 ⟨⟨t6,rfl,bC⟩,tA⟩;have z1:=(tA.cell (p:=⟨b1,off+k*2,none⟩) (zD q0)).trans q0;have z2:=(tA.cell (p:=⟨b1,off+k*2+1,none⟩) (zD q1)).trans q1))
    have rB:=qZ hb tA;have cC:=zB (bC.trans zAc);clear bC tA z1 z2 q0 q1 hd;have lA:(t6 == decide (zn aA k<=t))=true↔((zk aA k,zn aA k)∈bA↔zn aA k<=t):=by
     have ho:=cC.out;cases t6<;>simp_all
    have gA:=zB lA;clear lA;cases hc:(t6 == decide (zn aA k<=t))
    ·go_wp2;go_ret;exact⟨zG.no fun hA=>absurd (gA.out.2 ((zIj _ _ _ _).2 hA k vA).2) (by simp[hc]),zA eA rB⟩
    ·go_wp2;go_roundw
     case rel=>exact⟨k+1,by omega,by go_num,zr vA fA.out ⟨Hg.out,gA.out.1 hc⟩,rB⟩
     case measure=>simp[intOf];omega
  ·obtain rfl:k=aA.length:=(by omega);go_wp2;go_ret;exact⟨zG.yes ((zIj _ _ _ _).1 fA.out),zA eA hb⟩
theorem zI2{l m:List (Int×Int)}{k:Nat}(hk:k<l.length)(h:(zk l k,zn l k)∈m):yu (l.take (k+1)) m=yu (l.take k) m:=by
 unfold zk zn at h;rw[yC hk]at h;unfold yu;rw[List.take_succ_eq_append_getElem hk,List.filter_append,List.filter_cons];simp only[List.filter_nil];rw[if_neg (by simp;exact h),List.append_nil]
theorem zGh{l m:List (Int×Int)}{k:Nat}(hk:k<l.length)(h:(zk l k,zn l k)∉m):yu (l.take (k+1)) m=yu (l.take k) m ++ [(zk l k,zn l k)]:=by
 unfold zk zn at h ⊢;rw[yC hk]at h ⊢;unfold yu;rw[List.take_succ_eq_append_getElem hk,List.filter_append,List.filter_cons];simp only[List.filter_nil];rw[if_pos (by simp;exact h)]
theorem zJ2(l m:List (Int×Int))(k:Nat):(yu (l.take k) m).length<=k:=by
 unfold yu;exact Nat.le_trans (List.length_filter_le _ _) (by rw[List.length_take];omega)
theorem zFr(v0 v1 v2 v3 vd:Value)(lo hi mC iC dn:Nat)(ds db:Nat->Int)(W:zE)(x rs rb:Int)(dA aA:List (Int×Int))(w:World)(h:zd w lo hi v0 v1 v2 v3 W)(hD:zR w mC iC vd dn ds db)(hR:qB W.zPE)(hT:zz W.zPE rs rb)(hA:zz W.zPE (zK W x).rs (zK W x).rb)(hP:zBn W)(nA:dA=zX W.zPE rs rb)(oA:aA=zX W.zPE (zK W x).rs (zK W x).rb) :
  Calls Tryz.prog 72 #[zt v0 v1 v2 v3 W,.int .i64 x,.agg #[.int .i64 rs,.int .i64 rb],vd] w fun e w'=>zG (zCm dn ds db (yu aA dA)) e/\Below w.heap.size w w':=by
 have Hp:=zB h;have HR:=zB hR;have HT:=zB hT;have HA:=zB hA;have HP:=zB hP;have fA:=zB nA;have lA:=zB oA;have HD:=zB hD;clear h hR hT hA hP nA oA hD;have ha:=zC w (.cells #[v0,v1,.int .i64 W.time,.int .i64 W.next,v2,v3] 37);have hB:=zg.new w v0 v1 (.int .i64 W.time) (.int .i64 W.next) v2 v3 37;have iB:=zC (w.alloc (.cells #[v0,v1,.int .i64 W.time,.int .i64 W.next,v2,v3] 37)) (.cells #[.int .i64 rs,.int .i64 rb] 61);have hX:=zp.new (w.alloc (.cells #[v0,v1,.int .i64 W.time,.int .i64 W.next,v2,v3] 37)) (.int .i64 rs) (.int .i64 rb) 61;have gB:=hB.zO9 iB;have aB:=zA ha iB;have lC:(w.alloc (.cells #[v0,v1,.int .i64 W.time,.int .i64 W.next,v2,v3] 37)).heap.size=w.heap.size+1:=World.size_alloc _ _;rw[lC]at hX;clear ha iB hB;go_enter Tryz.func72,Tryz.ntmps72;go_wp2_with fail;generalize ((w.alloc (.cells #[v0,v1,.int .i64 W.time,.int .i64 W.next,v2,v3] 37)).alloc (.cells #[.int .i64 rs,.int .i64 rb] 61))=W0 at hX gB aB ⊢;refine(zA1 v0 v1 v2 _ lo hi W x W0 (Hp.out.zO9 aB)).mono ?_;rintro e w1 ⟨s,b,t,rfl,hF,vA⟩;have hq:=zEn HP.out hF;have dC:=zB (show zz W.zPE s b by rw[hq.1,hq.2.1];exact HA.out);have HF:=zB (show aA=zX W.zPE s b by rw[lA.out,hq.1,hq.2.1]);clear hq lA HA;have eC:=hX.zO9 vA;have bC:=gB.zO9 vA;have fC:=zA aB vA;have tA:=zC w1 (.cells #[.int .i64 s,.int .i64 b] 61);have aC:=zB (zp.new w1 (.int .i64 s) (.int .i64 b) 61);have eB:=zB (eC.zO9 tA);have dB:=zB (bC.zO9 tA);have iA:=zA fC tA;clear hX gB aB vA lC hF eC bC fC tA;obtain⟨⟨y0,y1⟩,⟨y2,y3⟩⟩:=aC.out;obtain⟨⟨z0,z1⟩,⟨z2,z3⟩⟩:=eB.out;obtain⟨⟨x0,x1⟩,⟨x2,x3⟩,⟨x4,x5⟩,⟨x6,x7⟩,⟨x8,x9⟩,⟨oB,pB⟩⟩:=dB.out;go_wp2_with fail;generalize w1.alloc (.cells #[.int .i64 s,.int .i64 b] 61)=w3 at *;refine(yh v0 v1 lo hi W.zPE s b w3 (Hp.out.zPE.zO9 iA) HR.out dC.out).mono ?_;rintro e w4 ⟨vo,rfl,kC,bB⟩;have ho:=(kC.atW (by have:=qK W.zPE s b;omega));have vB:=zB (eB.out.zO9 bB);have sB:=zB (dB.out.zO9 bB);have jA:=zA iA bB;clear kC bB eB dB aC iA x0 x1 x2 x3 x4 x5 x6 x7 x8 x9 oB pB y0 y1 y2 y3 z0 z1 z2 z3;obtain⟨⟨z0,z1⟩,⟨z2,z3⟩⟩:=vB.out;obtain⟨⟨x0,x1⟩,⟨x2,x3⟩,⟨x4,x5⟩,⟨x6,x7⟩,⟨x8,x9⟩,⟨oB,pB⟩⟩:=sB.out;go_wp2_with fail;refine(yh v0 v1 lo hi W.zPE rs rb w4 (Hp.out.zPE.zO9 jA) HR.out HT.out).mono ?_;rintro e w5 ⟨vn,rfl,jC,jB⟩;have hn:=(jC.atW (by have:=qK W.zPE rs rb;omega));have cB:=ho.zO9 jB;have mA:=zA jA jB;clear jC jB vB sB jA ho x0 x1 x2 x3 x4 x5 x6 x7 x8 x9 oB pB z0 z1 z2 z3;have HL:=zB (show dA.length<=73/\aA.length<=73 by rw[fA.out,HF.out];exact⟨qK _ _ _,qK _ _ _⟩);rw[<-fA.out]at hn;rw[<-HF.out]at cB;clear HF dC HT fA HR HP;obtain⟨mo,ao,co,rfl,fD,_⟩:=id cB;have bD:aA.length<=73:=HL.out.2;have Hn:=zB hn;have Ho:=zB cB;have nC:=zB (HD.out.zO9 mA);clear hn cB HD;unfold maxLen at mo;obtain⟨i0,gC,nB⟩:=Option.map_eq_some_iff.1 zBy;simp only[Prod.mk.injEq]at nB;have HI:=zB (And.intro gC nB);clear gC nB;have rB:=zB (zC w5 (.cells #[] 61));have tB:=zB (show qE (w5.alloc (.cells #[] 61)) w5.heap.size (.slice (some ⟨w5.heap.size,0,none⟩) 0 0) [] from World.ownsRow_lit (e:=61) (size:=2) w5 #[] 0 (Nat.le_refl _) (by unfold maxLen;omega) rfl);go_wp2
 go_loopw [13,14] (fun vw i wr=>∃k:Nat,k<=aA.length/\i = .int .i64 k/\qE wr w5.heap.size vw (yu (aA.take k) dA)/\Below w5.heap.size w5 wr) (fun _ i _=>aA.length - (intOf i).toNat)
 case atStart=>exact⟨0,Nat.zero_le _,rfl,by rw[List.take_zero];exact tB.out,rB.out⟩
 case round=>
  obtain⟨k,hk,rfl,rA,hb⟩:=hrel;have cA:=zB rA;clear rA tB rB;by_cases mB:k<aA.length
  ·have tC:(k:Int)<(aA.length:Int):=(by omega);obtain⟨b1,off,rfl,q0,q1⟩:=(Ho.out.zO9 hb).zPC mB;go_wp2_with fail;refine(zCe _ dA.length 0 w5.heap.size (zk dA) (zn dA) (zk aA k) (zn aA k) _ (Hn.out.zO9 hb)).mono ?_;rintro e w6 ⟨⟨t6,rfl,sA⟩,gA⟩;have z0:=(gA.cell (p:=⟨b1,off+k*2,none⟩) (zD q0)).trans q0;have z1:=(gA.cell (p:=⟨b1,off+k*2+1,none⟩) (zD q1)).trans q1;have kB:=zA hb gA;have bA:=zB (cA.out.zO9 gA);have fB:=zB (sA.trans zAc);clear sA gA q0 q1 cA;cases t6
   ·have lB:=zC w6 (.cells #[.int .i64 (zk aA k),.int .i64 (zn aA k)] 61);have eA:=zB (bA.out.zO9 lB);have cC:=zA kB lB;have dD:=kB.size;have eD:(w6.alloc (.cells #[.int .i64 (zk aA k),.int .i64 (zn aA k)] 61)).heap.size=w6.heap.size+1:=World.size_alloc _ _;have HN:=zB (World.news_of_block (heap_alloc_last w6 (.cells #[.int .i64 (zk aA k),.int .i64 (zn aA k)] 61)));have sC:=zJ2 aA dA k;clear lB bA;go_wp2_with (first
     | (at_builtin;refine wpList_append_lies _ rfl _ _ 62 rfl w5.heap.size 61 i0 (.agg #[.int .i64 0,.int .i64 0]) 2 16 (by kernel_rfl) HI.out.1 HI.out.2.1 HI.out.2.2.1 HI.out.2.2.2 rfl (by decide) _ _ _ rfl eA.out ⟨w6.heap.size,0,none⟩ 1 1 [.int .i64 (zk aA k),.int .i64 (zn aA k)] rfl rfl HN.out (by simp[Value.oneCell']) (by decide) (by unfold maxLen;omega) (by omega) (by omega) _ rfl ?_;intro g' pC w8 pA kA rC vC)
     | go_in)
    go_roundw
    case rel=>exact⟨k+1,by omega,by go_num,by rw[zGh mB (fun h=>absurd (fB.out.2 h) (by simp))];exact qE.next pA,cC.grown kA cC.size (fun q hq=>(eA.out.lt hq).1)⟩
    case measure=>simp[intOf];omega
   ·have Hm:=zB (fB.out.1 rfl);clear fB;go_wp2;go_roundw
    case rel=>exact⟨k+1,by omega,by go_num,by rw[zI2 mB Hm.out];exact bA.out,kB⟩
    case measure=>simp[intOf];omega
  ·obtain rfl:k=aA.length:=(by omega);have hw:=cA.out;rw[List.take_length]at hw;have cD:(yu aA dA).length<=aA.length:=List.length_filter_le _ _;have aD:=hw.atW (by omega);clear hw cA;go_wp2_with fail;refine(zFf vd _ dn mC iC _ 0 wr.heap.size ds db _ _ wr (nC.out.zO9 hb) aD).mono ?_;rintro e w6 ⟨⟨t6,rfl,sA⟩,gA⟩;have oC:=zB sA;clear sA;go_wp2;go_ret;exact⟨⟨t6,rfl,oC.out⟩,zA mA (zA hb gA)⟩
def zBl(W:zE)(i:Nat):Prop:=zLc (yP W (zJ W i)) (zB8 W (zJ W i)) (zK W (zJ W i).zPH).time (zJ W i).time
theorem zAj.snap{W:zE}(h:zAj W){k:Nat}(hk:k<W.pn):zz W.zPE (W.zPD k).rs (W.zPD k).rb:=by
 have:=h.tree k (by unfold zm;omega);rw[qA hk]at this;exact this
theorem zAj.set{W:zE}(h:zAj W){k:Nat}(hk:k<W.sn):zz W.zPE (W.zPG k).rs (W.zPG k).rb:=by
 have:=h.tree (W.pn+k) (by unfold zm;omega);rw[qz]at this;exact this
theorem zJb{v0 v1 v2 v3:Value}{lo hi:Nat}{W:zE}{w:World}(h:zd w lo hi v0 v1 v2 v3 W)(hT:zAj W)(hP:zBn W){k:Nat}(hk:k<W.pn)(w':World)(hb:Below w.heap.size w w') :
  Calls Tryz.prog 144 #[zt v0 v1 v2 v3 W,.int .i64 (W.zPD k).zPH,.agg #[.int .i64 (W.zPD k).rs,.int .i64 (W.zPD k).rb],.int .i64 (W.zPD k).time] w' fun e aA=>zG (zBl W k) e/\Below w'.heap.size w' aA:=by
 unfold zBl;rw[qA hk];exact zEA v0 v1 v2 v3 lo hi W _ _ _ _ _ _ _ w' (h.zO9 hb) hT.right (hT.snap hk) (hT.old _) hP rfl rfl rfl
theorem zKq{v0 v1 v2 v3:Value}{lo hi:Nat}{W:zE}{w:World}(h:zd w lo hi v0 v1 v2 v3 W)(hT:zAj W)(hP:zBn W){k:Nat}(hk:k<W.sn)(w':World)(hb:Below w.heap.size w w') :
  Calls Tryz.prog 144 #[zt v0 v1 v2 v3 W,.int .i64 (W.zPG k).zPH,.agg #[.int .i64 (W.zPG k).rs,.int .i64 (W.zPG k).rb],.int .i64 W.time] w' fun e aA=>zG (zBl W (W.pn+k)) e/\Below w'.heap.size w' aA:=by
 unfold zBl;rw[qz];exact zEA v0 v1 v2 v3 lo hi W _ _ _ _ _ _ _ w' (h.zO9 hb) hT.right (hT.set hk) (hT.old _) hP rfl rfl rfl
theorem zJ1(v0 v1 v2 v3:Value)(lo hi:Nat)(W:zE)(w:World)(h:zd w lo hi v0 v1 v2 v3 W)(hT:zAj W)(hP:zBn W) :
  Calls Tryz.prog 76 #[zt v0 v1 v2 v3 W] w fun e w'=>zG (∀i,i<zm W->zBl W i) e/\Below w.heap.size w w':=by
 have Hp:=zB h;have HT:=zB hT;have HP:=zB hP;obtain⟨m1,a,c,rfl,mc,_⟩:=id h.zPD;obtain⟨m2,a',c',rfl,lA,_⟩:=id h.zPG;unfold maxLen at m1 m2;clear h hT hP;have ha:=zC w (.cells #[v0,v1,.int .i64 W.time,.int .i64 W.next,.slice a' W.sn c',.slice a W.pn c] 37);have HB:=zB (zg.new w v0 v1 (.int .i64 W.time) (.int .i64 W.next) (.slice a' W.sn c') (.slice a W.pn c) 37);go_enter Tryz.func76,Tryz.ntmps76;go_wp2
 go_loopw [3] (fun i wr=>∃k:Nat,k<=W.pn/\i = .int .i64 k/\(∀j,j<k->zBl W j)/\zg wr w.heap.size v0 v1 (.int .i64 W.time) (.int .i64 W.next) (.slice a' W.sn c') (.slice a W.pn c)/\Below w.heap.size w wr) (fun i _=>W.pn - (intOf i).toNat)
 case atStart=>exact⟨0,Nat.zero_le _,rfl,fun j hj=>absurd hj (Nat.not_lt_zero _),HB.out,ha⟩
 case round=>
  obtain⟨k,hk,rfl,cA,hX,hb⟩:=hrel;have bA:=zB cA;have HX:=zB hX;clear cA hX ha HB;obtain⟨⟨x0,x1⟩,⟨x2,x3⟩,⟨x4,x5⟩,⟨x6,x7⟩,⟨x8,x9⟩,⟨kA,gA⟩⟩:=HX.out;by_cases dA:k<W.pn
  ·have jA:(k:Int)<(W.pn:Int):=(by omega);have Hc:=zB (zJb (Hp.out.zO9 hb) HT.out HP.out dA);obtain⟨b,off,vd,rfl,hs⟩:=(Hp.out.zPD.zO9 hb).cells dA;have q3:=hs.c3;have q4:=hs.c4;have q5:=hs.c5;have q6:=hs.c6;clear hs x1 x3 x5 x7 x9 gA;go_wp2_with fail;go_region_held3 (fun w'=>w'.cell? ⟨w.heap.size,0,none⟩=some v0/\w'.cell? ⟨w.heap.size,1,none⟩=some v1/\w'.cell? ⟨w.heap.size,2,none⟩=some (.int .i64 W.time)/\w'.cell? ⟨w.heap.size,3,none⟩=some (.int .i64 W.next)/\w'.cell? ⟨w.heap.size,4,none⟩=some (.slice a' W.sn c')/\w'.cell? ⟨w.heap.size,5,none⟩=some (.slice (some ⟨b,off,none⟩) W.pn c)/\w'.cell? ⟨b,off+k*8+3,none⟩=some (.int .i64 (W.zPD k).zPH)/\w'.cell? ⟨b,off+k*8+4,none⟩=some (.int .i64 (W.zPD k).time)/\w'.cell? ⟨b,off+k*8+5,none⟩=some (.int .i64 (W.zPD k).rs)/\w'.cell? ⟨b,off+k*8+6,none⟩=some (.int .i64 (W.zPD k).rb)) (go_keep)
    (first | (go_at_call 144;refine(Hc.out _ ?_).mono ?_;(exact(Below.refl _ _).drew);rintro e w6 ⟨⟨t6,rfl,fA⟩,aA⟩;obtain⟨⟨y0,_⟩,⟨y1,_⟩,⟨y2,_⟩,⟨y3,_⟩,⟨y4,_⟩,⟨y5,_⟩⟩:=HX.out.zO9 (zI aA);have z3:=(aA.cell (p:=⟨b,off+k*8+3,none⟩) (zD q3)).trans q3;have z4:=(aA.cell (p:=⟨b,off+k*8+4,none⟩) (zD q4)).trans q4;have z5:=(aA.cell (p:=⟨b,off+k*8+5,none⟩) (zD q5)).trans q5;have z6:=(aA.cell (p:=⟨b,off+k*8+6,none⟩) (zD q6)).trans q6))
   have eA:=qZ hb aA;have iA:=zB (HX.out.zO9 (zI aA));have Ht:=zB fA;clear fA aA z3 z4 z5 z6 y0 y1 y2 y3 y4 y5 q3 q4 q5 q6 HX;cases t6
   ·have Hn:=zB (show ¬zBl W k from fun hA=>absurd (Ht.out.2 hA) (by simp));clear Ht;go_wp2;go_ret;exact⟨zG.no fun hA=>Hn.out (hA k (by unfold zm;omega)),eA⟩
   ·have Hn:=zB (Ht.out.1 rfl);clear Ht;go_wp2;go_roundw
    case rel=>exact⟨k+1,by omega,by go_num,zr dA bA.out Hn.out,iA.out,eA⟩
    case measure=>simp[intOf];omega
  ·obtain rfl:k=W.pn:=(by omega);go_wp2
   go_loopw [4] (fun i wr=>∃k:Nat,k<=W.sn/\i = .int .i64 k/\(∀j,j<W.pn+k->zBl W j)/\zg wr w.heap.size v0 v1 (.int .i64 W.time) (.int .i64 W.next) (.slice a' W.sn c') (.slice a W.pn c)/\Below w.heap.size w wr) (fun i _=>W.sn - (intOf i).toNat)
   case atStart=>exact⟨0,Nat.zero_le _,rfl,bA.out,HX.out,hb⟩
   case round=>
    clear x0 x1 x2 x3 x4 x5 x6 x7 x8 x9 kA gA HX hb bA;obtain⟨k,hk,rfl,cA,hX,hb⟩:=hrel;have bA:=zB cA;have HX:=zB hX;clear cA hX;obtain⟨⟨x0,x1⟩,⟨x2,x3⟩,⟨x4,x5⟩,⟨x6,x7⟩,⟨x8,x9⟩,⟨kA,gA⟩⟩:=HX.out;by_cases dA:k<W.sn
    ·have jA:(k:Int)<(W.sn:Int):=(by omega);have Hc:=zB (zKq (Hp.out.zO9 hb) HT.out HP.out dA);obtain⟨b,off,vd,rfl,hs⟩:=(Hp.out.zPG.zO9 hb).cells dA;have q3:=hs.c2;have q5:=hs.c3;have q6:=hs.c4;clear hs x1 x3 x5 x7 x9 gA;go_wp2_with fail;go_region_held3 (fun w'=>w'.cell? ⟨w.heap.size,0,none⟩=some v0/\w'.cell? ⟨w.heap.size,1,none⟩=some v1/\w'.cell? ⟨w.heap.size,2,none⟩=some (.int .i64 W.time)/\w'.cell? ⟨w.heap.size,3,none⟩=some (.int .i64 W.next)/\w'.cell? ⟨w.heap.size,4,none⟩=some (.slice (some ⟨b,off,none⟩) W.sn c')/\w'.cell? ⟨w.heap.size,5,none⟩=some (.slice a W.pn c)/\w'.cell? ⟨b,off+k*6+2,none⟩=some (.int .i64 (W.zPG k).zPH)/\w'.cell? ⟨b,off+k*6+3,none⟩=some (.int .i64 (W.zPG k).rs)/\w'.cell? ⟨b,off+k*6+4,none⟩=some (.int .i64 (W.zPG k).rb)) (go_keep)
      (first | (go_at_call 144;refine(Hc.out _ ?_).mono ?_;(exact(Below.refl _ _).drew);rintro e w6 ⟨⟨t6,rfl,fA⟩,aA⟩;obtain⟨⟨y0,_⟩,⟨y1,_⟩,⟨y2,_⟩,⟨y3,_⟩,⟨y4,_⟩,⟨y5,_⟩⟩:=HX.out.zO9 (zI aA);have z3:=(aA.cell (p:=⟨b,off+k*6+2,none⟩) (zD q3)).trans q3;have z5:=(aA.cell (p:=⟨b,off+k*6+3,none⟩) (zD q5)).trans q5;have z6:=(aA.cell (p:=⟨b,off+k*6+4,none⟩) (zD q6)).trans q6))
     have eA:=qZ hb aA;have iA:=zB (HX.out.zO9 (zI aA));have Ht:=zB fA;clear fA aA z3 z5 z6 y0 y1 y2 y3 y4 y5 q3 q5 q6 HX;cases t6
     ·have Hn:=zB (show ¬zBl W (W.pn+k)from fun hA=>absurd (Ht.out.2 hA) (by simp));clear Ht;go_wp2;go_ret;exact⟨zG.no fun hA=>Hn.out (hA _ (by unfold zm;omega)),eA⟩
     ·have Hn:=zB (Ht.out.1 rfl);clear Ht;go_wp2;go_roundw
      case rel=>
       refine⟨k+1,by omega,by go_num,fun j hj=>?_,iA.out,eA⟩;by_cases e:j=W.pn+k
       ·subst e;exact Hn.out
       ·exact bA.out j (by omega)
      case measure=>simp[intOf];omega
    ·obtain rfl:k=W.sn:=(by omega);go_wp2;go_ret;exact⟨zG.yes bA.out,hb⟩
def yQ(w:World)(R n:Nat)(f:Nat->Bool):Prop:=∀i,i<n->zQ w R i (.bool (f i))
theorem yQ.zO9{w w':World}{R n:Nat}{f:Nat->Bool}(h:yQ w R n f)(t:Below w.heap.size w w'):yQ w' R n f:=fun i hi=>(h i hi).zO9 t
theorem yQ.put{w:World}{R n:Nat}{f:Nat->Bool}(h:yQ w R n f){k:Nat}(c:Bool):yQ (w.setCell ⟨R,k,none⟩ (.bool c)) R n (fun i=>if i=k then c else f i):=fun i hi=>by
 by_cases e:i=k
 ·subst e;show zQ _ R i (.bool (if i=i then c else f i));rw[if_pos rfl];exact(h i hi).set _
 ·show zQ _ R i (.bool (if i=k then c else f i));rw[if_neg e];exact(h i hi).zPA _ (Or.inr (fun h=>e h.symm))
theorem zN6(z:Value)(n:Nat){i:Nat}(hi:i<n):(madeCells #[z] n)[i]?=some z:=by
 simp[madeCells,hi,Nat.mod_one]
theorem yQ.new(w:World)(n:Nat)(t:TypeId):yQ (w.alloc (.cells (madeCells #[.bool false] n) t)) w.heap.size n (fun _=>false):=fun i hi=>by
 have hb:(w.alloc (.cells (madeCells #[Value.bool false] n) t)).heap[w.heap.size]?=some (.cells (madeCells #[.bool false] n) t):=heap_alloc_new _ _;exact zH hb (zN6 _ _ hi)
theorem zM5:(Tryz.prog.info? 4).map (fun i=>(i.zero,i.size,i.bytes))=some (some (.bool false),1,1):=by kernel_rfl
theorem zDe(n:Nat)(hn:n<=1000)(w:World):(Instr.makeSlice 123 (.int .i64 (n:Int)) (.int .i64 (n:Int))).run Tryz.prog w = .ok (.slice (some ⟨w.heap.size,0,none⟩) n n) (w.alloc (.cells (madeCells #[.bool false] n) 4)):=
 run_make_row' 123 4 (.bool false) 1 (by kernel_rfl) zM5 rfl .i64 .i64 n (by omega) (by omega) w
def zEF(W:zE)(s:Nat):Prop:=∃m,m<zm W/\∃b,((s:Int),b)∈yP W (zJ W m)
def zA3(W:zE)(i:Nat):Int×Int:=if i<W.sn then((W.zPG i).rs,(W.zPG i).rb)else((W.zPD (i - W.sn)).rs,(W.zPD (i - W.sn)).rb)
def zBZ(W:zE)(n:Nat):List (Int×Int):=(List.range n).map (zA3 W)
theorem zBI(W:zE)(n:Nat):(zBZ W n).length=n:=by simp[zBZ]
theorem zFu(W:zE)(n:Nat):zBZ W (n+1)=zBZ W n ++ [zA3 W n]:=by simp[zBZ,List.range_succ]
theorem zDv{W:zE}{i:Nat}(h:i<W.sn):zA3 W i=((W.zPG i).rs,(W.zPG i).rb):=if_pos h
theorem zC5(W:zE)(i:Nat):zA3 W (W.sn+i)=((W.zPD i).rs,(W.zPD i).rb):=by
 unfold zA3;rw[if_neg (by omega),show W.sn+i - W.sn=i by omega]
theorem zMg{W:zE}{n i:Nat}(h:i<n):zk (zBZ W n) i=(zA3 W i).1/\zn (zBZ W n) i=(zA3 W i).2:=by
 unfold zk zn;rw[yC (by rw[zBI];exact h)];simp[zBZ]
theorem zNi{W:zE}(hT:zAj W){i:Nat}(hi:i<W.sn+W.pn):zz W.zPE (zA3 W i).1 (zA3 W i).2:=by
 by_cases h:i<W.sn
 ·rw[zDv h];exact hT.set h
 ·have:=zC5 W (i - W.sn);rw[show W.sn+(i - W.sn)=i by omega]at this;rw[this];exact hT.snap (by omega)
theorem zK2{W:zE}{s:Nat}:zEF W s↔∃i,i<W.sn+W.pn/\∃b,((s:Int),b)∈zX W.zPE (zA3 W i).1 (zA3 W i).2:=by
 unfold zEF zm yP;constructor
 ·rintro⟨m,hm,b,h⟩;by_cases hp:m<W.pn
  ·rw[qA hp]at h;exact⟨W.sn+m,by omega,b,by rw[zC5];exact h⟩
  ·have e:=qz W (m - W.pn);rw[show W.pn+(m - W.pn)=m by omega]at e;rw[e]at h;exact⟨m - W.pn,by omega,b,by rw[zDv (by omega)];exact h⟩
 ·rintro⟨i,hi,b,h⟩;by_cases hs:i<W.sn
  ·rw[zDv hs]at h;exact⟨W.pn+i,by omega,b,by rw[qz];exact h⟩
  ·have e:=zC5 W (i - W.sn);rw[show W.sn+(i - W.sn)=i by omega]at e;rw[e]at h;exact⟨i - W.sn,by omega,b,by rw[qA (by omega)];exact h⟩
def zOq(W:zE)(k:Nat)(l:List (Int×Int))(j s:Nat):Prop:=(∃i,i<k/\∃b,((s:Int),b)∈zX W.zPE (zA3 W i).1 (zA3 W i).2)\/∃q,q<j/\zk l q=(s:Int)
def zDG(W:zE)(k:Nat)(l:List (Int×Int))(j:Nat)(f:Nat->Bool):Prop:=∀s,f s=true↔zOq W k l j s
theorem zK9{W:zE}{k j s:Nat}{l:List (Int×Int)}{f:Nat->Bool}(h:zDG W k l j f)(hs:zk l j=(s:Int)):zDG W k l (j+1) (fun i=>if i=s then true else f i):=by
 intro i;show(if i=s then true else f i)=true↔_;by_cases e:i=s
 ·subst e;rw[if_pos rfl];exact⟨fun _=>Or.inr ⟨j,by omega,hs⟩,fun _=>rfl⟩
 ·rw[if_neg e,h i];constructor
  ·rintro(h | ⟨q,hq,h⟩)
   ·exact Or.inl h
   ·exact Or.inr ⟨q,by omega,h⟩
  ·rintro(h | ⟨q,hq,h⟩)
   ·exact Or.inl h
   ·by_cases eq:q=j
    ·subst eq;exact absurd (by omega) e
    ·exact Or.inr ⟨q,by omega,h⟩
theorem zLA{W:zE}{k:Nat}{l:List (Int×Int)}{f:Nat->Bool}(h:zDG W k l l.length f)(hl:l=zX W.zPE (zA3 W k).1 (zA3 W k).2):zDG W (k+1) [] 0 f:=by
 intro s;rw[h s];constructor
 ·rintro(⟨i,hi,h⟩ | ⟨q,hq,e⟩)
  ·exact Or.inl ⟨i,by omega,h⟩
  ·refine Or.inl ⟨k,by omega,(l[q]).2,?_⟩;unfold zk at e;rw[yC hq]at e;rw[<-hl,<-e];exact List.getElem_mem hq
 ·rintro(⟨i,hi,b,h2⟩ | ⟨q,hq,e⟩)
  ·by_cases e:i=k
   ·subst e;rw[<-hl]at h2;obtain⟨q,hq,e⟩:=List.getElem_of_mem h2;exact Or.inr ⟨q,hq,by unfold zk;rw[yC hq,e]⟩
   ·exact Or.inl ⟨i,by omega,b,h2⟩
  ·omega
theorem zJ4{W:zE}{k:Nat}{f:Nat->Bool}(h:zDG W k [] 0 f)(l:List (Int×Int)):zDG W k l 0 f:=by
 intro s;rw[h s];constructor
 ·rintro(h | ⟨q,hq,_⟩)
  ·exact Or.inl h
  ·omega
 ·rintro(h | ⟨q,hq,_⟩)
  ·exact Or.inl h
  ·omega
theorem zG9{p:zN}{rs rb:Int}(hR:qB p)(hT:zz p rs rb){j:Nat}(hj:j<(zX p rs rb).length):∃s:Nat,zk (zX p rs rb) j=(s:Int)/\s<p.n:=by
 unfold zk;rw[yC hj];have:=(zAF hR hT (List.getElem_mem hj)).1;obtain⟨_,h0,h1,_⟩:=this;exact⟨((zX p rs rb)[j]).1.toNat,by omega,by omega⟩
theorem zg.grown{w w1:World}{b:Nat}{v0 v1 v2 v3 v4 v5:Value}{row:Option Nat}(h:zg w b v0 v1 v2 v3 v4 v5)(hg:w.grownBy w1 row)(aA:∀q,row=some q->b≠q):zg w1 b v0 v1 v2 v3 v4 v5:=by
 have hb:b<w.heap.size:=h.1.lt;refine h.zPF (S:=fun k=>row=some k) ⟨hg.os,hg.tape,hg.output,hg.size,fun k hk hs=>hg.block k hk (fun e=>hs e.symm)⟩ (fun e=>aA b e rfl)
theorem yQ.grown{w w1:World}{R n:Nat}{f:Nat->Bool}{row:Option Nat}(h:yQ w R n f)(hg:w.grownBy w1 row)(aA:∀q,row=some q->R≠q):yQ w1 R n f:=fun i hi=>
 (h i hi).zPF (S:=fun k=>row=some k) ⟨hg.os,hg.tape,hg.output,hg.size,fun k hk hs=>hg.block k hk (fun e=>hs e.symm)⟩ (fun e=>aA R e rfl)
theorem zI1(v0 v1 v2 v3:Value)(lo hi:Nat)(W:zE)(w:World)(h:zd w lo hi v0 v1 v2 v3 W)(hT:zAj W)(hs:W.sn<=8)(hp:W.pn<=20) :
  Calls Tryz.prog 73 #[zt v0 v1 v2 v3 W] w fun e w'=>∃R f,e = .returned (.slice (some ⟨R,0,none⟩) W.zPE.n W.zPE.n)/\w.heap.size<=R/\yQ w' R W.zPE.n f/\(∀s,f s=true↔zEF W s)/\Below w.heap.size w w':=by
 have Hp:=zB h;have HT:=zB hT;obtain⟨m1,a,c,rfl,mc,_⟩:=id h.zPD;obtain⟨m2,a',c',rfl,aD,_⟩:=id h.zPG;obtain⟨m0,a0,c0,rfl,bD,_⟩:=id h.zPE.1;unfold maxLen at m0 m1 m2;have tC:W.zPE.n<=200:=hT.right.1;clear h hT;obtain⟨i0,rB,oB⟩:=Option.map_eq_some_iff.1 zBy;simp only[Prod.mk.injEq]at oB;have HI:=zB (And.intro rB oB);clear rB oB;have sC:=zDe W.zPE.n (by omega);have ha:=zC w (.cells #[.slice a0 W.zPE.n c0,v1,.int .i64 W.time,.int .i64 W.next,.slice a' W.sn c',.slice a W.pn c] 37);have nB:(w.alloc (.cells #[.slice a0 W.zPE.n c0,v1,.int .i64 W.time,.int .i64 W.next,.slice a' W.sn c',.slice a W.pn c] 37)).heap.size=w.heap.size+1:=World.size_alloc _ _;have dC:∀W1:World,W1=w.alloc (.cells #[.slice a0 W.zPE.n c0,v1,.int .i64 W.time,.int .i64 W.next,.slice a' W.sn c',.slice a W.pn c] 37)->zg ((W1.alloc (.cells (madeCells #[.bool false] W.zPE.n) 4)).alloc (.cells #[] 61)) w.heap.size (.slice a0 W.zPE.n c0) v1 (.int .i64 W.time) (.int .i64 W.next) (.slice a' W.sn c') (.slice a W.pn c)/\yQ ((W1.alloc (.cells (madeCells #[.bool false] W.zPE.n) 4)).alloc (.cells #[] 61)) (w.heap.size+1) W.zPE.n (fun _=>false)/\qE ((W1.alloc (.cells (madeCells #[.bool false] W.zPE.n) 4)).alloc (.cells #[] 61)) (w.heap.size+2) (.slice (some ⟨w.heap.size+1+1,0,none⟩) 0 0) []/\Below w.heap.size w ((W1.alloc (.cells (madeCells #[.bool false] W.zPE.n) 4)).alloc (.cells #[] 61)):=by
  rintro W1 rfl;have hB:=zg.new w (.slice a0 W.zPE.n c0) v1 (.int .i64 W.time) (.int .i64 W.next) (.slice a' W.sn c') (.slice a W.pn c) 37;have hR:=yQ.new (w.alloc (.cells #[.slice a0 W.zPE.n c0,v1,.int .i64 W.time,.int .i64 W.next,.slice a' W.sn c',.slice a W.pn c] 37)) W.zPE.n 4;rw[nB]at hR;generalize w.alloc (.cells #[.slice a0 W.zPE.n c0,v1,.int .i64 W.time,.int .i64 W.next,.slice a' W.sn c',.slice a W.pn c] 37)=W1 at *;have b2:=zC W1 (.cells (madeCells #[.bool false] W.zPE.n) 4);have dB:(W1.alloc (.cells (madeCells #[.bool false] W.zPE.n) 4)).heap.size=w.heap.size+1+1:=(by rw[World.size_alloc,nB]);have iC:=hB.zO9 b2;have jC:=zA ha b2;generalize W1.alloc (.cells (madeCells #[.bool false] W.zPE.n) 4)=W2 at *;have b3:=zC W2 (.cells #[] 61);have l3:=World.ownsRow_lit (e:=61) (size:=2) (base:=w.heap.size+2) W2 #[] 0 (by rw[dB];omega) (by unfold maxLen;omega) rfl;rw[dB]at l3;exact⟨iC.zO9 b3,hR.zO9 b3,l3,zA jC b3⟩
 have pB:=zB (dC _ rfl);clear dC;go_enter Tryz.func73,Tryz.ntmps73;obtain⟨⟨x0,x1⟩,⟨x2,x3⟩,⟨x4,x5⟩,⟨x6,x7⟩,⟨x8,x9⟩,⟨kA,pA⟩⟩:=zg.new w (.slice a0 W.zPE.n c0) v1 (.int .i64 W.time) (.int .i64 W.next) (.slice a' W.sn c') (.slice a W.pn c) 37;go_wp2;clear x0 x1 x2 x3 x4 x5 x6 x7 x8 x9 kA pA ha
 go_loopw [4,5] (fun vr i wr=>∃k:Nat,k<=W.sn/\i = .int .i64 k/\qE wr (w.heap.size+2) vr (zBZ W k)/\zg wr w.heap.size (.slice a0 W.zPE.n c0) v1 (.int .i64 W.time) (.int .i64 W.next) (.slice a' W.sn c') (.slice a W.pn c)/\yQ wr (w.heap.size+1) W.zPE.n (fun _=>false)/\Below w.heap.size w wr) (fun _ i _=>W.sn - (intOf i).toNat)
 case atStart=>
  obtain⟨s1,s2,s3,s4⟩:=pB.out;exact⟨0,Nat.zero_le _,rfl,s3,s1,s2,s4⟩
 case round=>
  clear pB nB;obtain⟨k,hk,rfl,dA,hX,hR,hb⟩:=hrel;have aA:=zB dA;have HX:=zB hX;have eA:=zB hR;clear dA hX hR;obtain⟨⟨x0,x1⟩,⟨x2,x3⟩,⟨x4,x5⟩,⟨x6,x7⟩,⟨x8,x9⟩,⟨kA,pA⟩⟩:=HX.out;by_cases mA:k<W.sn
  ·have aB:(k:Int)<(W.sn:Int):=(by omega);obtain⟨b,off,vd,rfl,jA⟩:=(Hp.out.zPG.zO9 hb).cells mA;have q3:=jA.c3;have q4:=jA.c4;clear jA;have gA:=zC wr (.cells #[.int .i64 (W.zPG k).rs,.int .i64 (W.zPG k).rb] 61);have cA:=zB (aA.out.zO9 gA);have sA:=zB (HX.out.zO9 gA);have rA:=zB (eA.out.zO9 gA);have tA:=zA hb gA;have dB:=zD kA;have mC:=(eA.out);have lC:(wr.alloc (.cells #[.int .i64 (W.zPG k).rs,.int .i64 (W.zPG k).rb] 61)).heap.size=wr.heap.size+1:=World.size_alloc _ _;have HN:=zB (World.news_of_block (heap_alloc_last wr (.cells #[.int .i64 (W.zPG k).rs,.int .i64 (W.zPG k).rb] 61)));have nA:=zBI W k;clear gA aA HX eA mC;go_wp2_with (first
    | (at_builtin;refine wpList_append_lies _ rfl _ _ 62 rfl (w.heap.size+2) 61 i0 (.agg #[.int .i64 0,.int .i64 0]) 2 16 (by kernel_rfl) HI.out.1 HI.out.2.1 HI.out.2.2.1 HI.out.2.2.2 rfl (by decide) _ _ _ rfl cA.out ⟨wr.heap.size,0,none⟩ 1 1 [.int .i64 (W.zPG k).rs,.int .i64 (W.zPG k).rb] rfl rfl HN.out (by simp[Value.oneCell']) (by decide) (by unfold maxLen;omega) (by omega) (by omega) _ rfl ?_;intro g' gB w8 iA bA jB lB)
    | go_in)
   go_roundw
   case rel=>
    have oA:∀q,Value.ownBlock _=some q->w.heap.size+2<=q:=fun q hq=>(cA.out.lt hq).1
    refine⟨k+1,by omega,by go_num,?_,sA.out.grown bA (fun q hq=>by have:=oA q hq;omega),rA.out.grown bA (fun q hq=>by have:=oA q hq;omega),tA.grown bA tA.size (fun q hq=>by have:=oA q hq;omega)⟩;rw[zFu,zDv mA];have bB:=qE.next iA;rw[nA]at bB;exact bB
   case measure=>simp[intOf];omega
  ·obtain rfl:k=W.sn:=(by omega);go_wp2
   go_loopw [4,6] (fun vr i wr=>∃k:Nat,k<=W.pn/\i = .int .i64 k/\qE wr (w.heap.size+2) vr (zBZ W (W.sn+k))/\zg wr w.heap.size (.slice a0 W.zPE.n c0) v1 (.int .i64 W.time) (.int .i64 W.next) (.slice a' W.sn c') (.slice a W.pn c)/\yQ wr (w.heap.size+1) W.zPE.n (fun _=>false)/\Below w.heap.size w wr) (fun _ i _=>W.pn - (intOf i).toNat)
   case atStart=>exact⟨0,Nat.zero_le _,rfl,aA.out,HX.out,eA.out,hb⟩
   case round=>
    clear x0 x1 x2 x3 x4 x5 x6 x7 x8 x9 kA pA HX hb aA eA;obtain⟨k,hk,rfl,dA,hX,hR,hb⟩:=hrel;have aA:=zB dA;have HX:=zB hX;have eA:=zB hR;clear dA hX hR;obtain⟨⟨x0,x1⟩,⟨x2,x3⟩,⟨x4,x5⟩,⟨x6,x7⟩,⟨x8,x9⟩,⟨kA,pA⟩⟩:=HX.out;by_cases mA:k<W.pn
    ·have aB:(k:Int)<(W.pn:Int):=(by omega);obtain⟨b,off,vd,rfl,jA⟩:=(Hp.out.zPD.zO9 hb).cells mA;have q3:=jA.c5;have q4:=jA.c6;clear jA;have gA:=zC wr (.cells #[.int .i64 (W.zPD k).rs,.int .i64 (W.zPD k).rb] 61);have cA:=zB (aA.out.zO9 gA);have sA:=zB (HX.out.zO9 gA);have rA:=zB (eA.out.zO9 gA);have tA:=zA hb gA;have dB:=zD kA;have lC:(wr.alloc (.cells #[.int .i64 (W.zPD k).rs,.int .i64 (W.zPD k).rb] 61)).heap.size=wr.heap.size+1:=World.size_alloc _ _;have HN:=zB (World.news_of_block (heap_alloc_last wr (.cells #[.int .i64 (W.zPD k).rs,.int .i64 (W.zPD k).rb] 61)));have nA:=zBI W (W.sn+k);clear gA aA HX eA;go_wp2_with (first
      | (at_builtin;refine wpList_append_lies _ rfl _ _ 62 rfl (w.heap.size+2) 61 i0 (.agg #[.int .i64 0,.int .i64 0]) 2 16 (by kernel_rfl) HI.out.1 HI.out.2.1 HI.out.2.2.1 HI.out.2.2.2 rfl (by decide) _ _ _ rfl cA.out ⟨wr.heap.size,0,none⟩ 1 1 [.int .i64 (W.zPD k).rs,.int .i64 (W.zPD k).rb] rfl rfl HN.out (by simp[Value.oneCell']) (by decide) (by unfold maxLen;omega) (by omega) (by omega) _ rfl ?_;intro g' gB w8 iA bA jB lB)
      | go_in)
     go_roundw
     case rel=>
      have oA:∀q,Value.ownBlock _=some q->w.heap.size+2<=q:=fun q hq=>(cA.out.lt hq).1
      refine⟨k+1,by omega,by go_num,?_,sA.out.grown bA (fun q hq=>by have:=oA q hq;omega),rA.out.grown bA (fun q hq=>by have:=oA q hq;omega),tA.grown bA tA.size (fun q hq=>by have:=oA q hq;omega)⟩;rw[show W.sn+(k+1)=W.sn+k+1 from rfl,zFu,zC5];have bB:=qE.next iA;rw[nA]at bB;exact bB
     case measure=>simp[intOf];omega
    ·obtain rfl:k=W.pn:=(by omega);go_wp2;obtain⟨ar,cr,rfl,pC⟩:=za aA.out;rw[zBI]at *;clear x0 x1 x2 x3 x4 x5 x6 x7 x8 x9 kA pA
     go_loopw [7] (fun i wr=>∃k:Nat,∃f,k<=W.sn+W.pn/\i = .int .i64 k/\qE wr (w.heap.size+2) (.slice ar (W.sn+W.pn) cr) (zBZ W (W.sn+W.pn))/\zg wr w.heap.size (.slice a0 W.zPE.n c0) v1 (.int .i64 W.time) (.int .i64 W.next) (.slice a' W.sn c') (.slice a W.pn c)/\yQ wr (w.heap.size+1) W.zPE.n f/\zDG W k [] 0 f/\Below w.heap.size w wr) (fun i _=>W.sn+W.pn - (intOf i).toNat)
     case atStart=>exact⟨0,fun _=>false,Nat.zero_le _,rfl,aA.out,HX.out,eA.out,fun s=>⟨fun h=>absurd h (by simp),fun h=>by rcases h with⟨i,hi,_⟩ | ⟨q,hq,_⟩<;>omega⟩,hb⟩
     case round=>
      clear HX hb aA eA;obtain⟨k,f,hk,rfl,dA,hX,hR,hm,hb⟩:=hrel;have aA:=zB dA;have HX:=zB hX;have eA:=zB hR;have Hm:=zB hm;clear dA hX hR hm;by_cases mA:k<W.sn+W.pn
      ·have aB:(k:Int)<(W.sn+W.pn:Int):=(by omega);have vB:=zNi HT.out mA;have kB:=zMg (W:=W) mA;have fA:=(aA.out.atW (by rw[zBI];omega));rw[zBI]at fA;obtain⟨b,off,rfl,q0,q1⟩:=fA.zPC mA;rw[kB.1]at q0;rw[kB.2]at q1;have eB:=zB vB;clear vB kB;generalize aC:(zA3 W k).1=rs at *;generalize bC:(zA3 W k).2=rb at *;have fB:=zB (And.intro aC bC);clear aC bC fA;obtain⟨⟨x0,x1⟩,⟨x2,x3⟩,⟨x4,x5⟩,⟨x6,x7⟩,⟨x8,x9⟩,⟨kA,pA⟩⟩:=HX.out;clear x1 x3 x4 x5 x6 x7 x8 x9 kA pA;go_wp2_with fail;go_region_held3 (fun w'=>w'.cell? ⟨w.heap.size,0,none⟩=some (.slice a0 W.zPE.n c0)/\w'.cell? ⟨w.heap.size,1,none⟩=some v1/\w'.cell? ⟨b,off+k*2,none⟩=some (.int .i64 rs)/\w'.cell? ⟨b,off+k*2+1,none⟩=some (.int .i64 rb)) (go_keep)
        (first | (go_at_call 141;refine(yh _ v1 lo hi W.zPE rs rb _ ?_ HT.out.right eB.out).mono ?_;(exact(Hp.out.zPE.zO9 hb).zO9 (Below.refl _ _).drew);rintro e w6 ⟨vl,rfl,cC,lA⟩;obtain⟨⟨y0,_⟩,⟨y1,_⟩,_⟩:=HX.out.zO9 (zI lA);have z0:=(lA.cell (p:=⟨b,off+k*2,none⟩) (zD q0)).trans q0;have z1:=(lA.cell (p:=⟨b,off+k*2+1,none⟩) (zD q1)).trans q1))
       have vA:=qZ hb lA;have sA:=zB (HX.out.zO9 (zI lA));have rA:=zB (eA.out.zO9 (zI lA));have cA:=zB (aA.out.zO9 (zI lA));have iB:0<W.zPE.n->w.heap.size+1<wr.heap.size:=fun h0=>(eA.out 0 h0).lt
       have Hl:=zB cC;clear lA cC z0 z1 y0 y1 q0 q1 x0 x2 HX eA aA;have eC:wr.drew.heap.size=wr.heap.size:=rfl;rw[eC]at Hl;obtain⟨al,cl,rfl,oC⟩:=za Hl.out;have rC:=qK W.zPE rs rb;have fC:=zB (fun j (hj:j<(zX W.zPE rs rb).length)=>zG9 HT.out.right eB.out hj);have HE:=zB (show zX W.zPE rs rb=zX W.zPE (zA3 W k).1 (zA3 W k).2 by rw[fB.out.1,fB.out.2]);generalize zX W.zPE rs rb=l at *;clear fB eB eC;go_wp2
       go_loopw [9] (fun i cB=>∃j:Nat,∃f,j<=l.length/\i = .int .i64 j/\qE cB wr.heap.size (.slice al l.length cl) l/\qE cB (w.heap.size+2) (.slice (some ⟨b,off,none⟩) (W.sn+W.pn) cr) (zBZ W (W.sn+W.pn))/\zg cB w.heap.size (.slice a0 W.zPE.n c0) v1 (.int .i64 W.time) (.int .i64 W.next) (.slice a' W.sn c') (.slice a W.pn c)/\yQ cB (w.heap.size+1) W.zPE.n f/\zDG W k l j f/\Below w.heap.size w cB) (fun i _=>l.length - (intOf i).toNat)
       case atStart=>exact⟨0,f,Nat.zero_le _,rfl,Hl.out,cA.out,sA.out,rA.out,zJ4 Hm.out l,vA⟩
       case round=>
        clear sA rA cA Hl vA Hm f;obtain⟨j,f,hj,rfl,tB,dA,hX,hR,hm,vA⟩:=hrel;have Hl:=zB tB;have aA:=zB dA;have HX:=zB hX;have eA:=zB hR;have Hm:=zB hm;clear dA hX hR hm tB;by_cases sB:j<l.length
        ·have kC:(j:Int)<(l.length:Int):=(by omega);obtain⟨b2,nC,rfl,q0,q1⟩:=(Hl.out.atW (by omega)).zPC sB;obtain⟨s,mB,jA⟩:=fC.out j sB;have vC:(s:Int)<(W.zPE.n:Int):=(by omega);rw[mB]at q0;obtain⟨y0,y1⟩:=eA.out s jA;have gC:=zB mB;clear mB q1;go_wp2;go_roundw
         case rel=>exact⟨j+1,_,by omega,by go_num,Hl.out.put (iB (by omega)) _,aA.out.put (by omega) _,HX.out.zPF (zF.put _ (w.heap.size+1) s _) (by omega),eA.out.put true,zK9 Hm.out gC.out,vA.setCell (show w.heap.size<=w.heap.size+1 by omega) _⟩
         case measure=>simp[intOf];omega
        ·obtain rfl:j=l.length:=(by omega);go_wp2;go_roundw
         case rel=>exact⟨k+1,f,by omega,by go_num,aA.out,HX.out,eA.out,zLA Hm.out HE.out,vA⟩
         case measure=>simp[intOf];omega
      ·obtain rfl:k=W.sn+W.pn:=(by omega);go_wp2;go_ret;refine⟨_,f,rfl,by omega,eA.out,fun s=>?_,hb⟩;rw[Hm.out s,zK2];constructor
       ·rintro(h | ⟨q,hq,_⟩)
        ·exact h
        ·omega
       ·exact Or.inl
def zIa(W:zE)(k:Nat):Prop:=∀i,i<k->∀j,j<i->∀x,x∈zEV W (zJ W i)->∀y,y∈zEV W (zJ W j)->x.1≠y.1
def zBk(W:zE)(k:Nat)(now old:List (Int×Int))(j:Nat):Prop:=∀q,q<j->(zk now q,zn now q)∉old->∀i,i<k->∀y,y∈zEV W (zJ W i)->zk now q≠y.1
def zOs(W:zE)(k:Nat)(now old:List (Int×Int))(j s:Nat):Prop:=(∃i,i<k/\∃b,((s:Int),b)∈zEV W (zJ W i))\/∃q,q<j/\zk now q=(s:Int)/\(zk now q,zn now q)∉old
def zA6(W:zE)(k:Nat)(now old:List (Int×Int))(j:Nat)(f:Nat->Bool):Prop:=∀s,f s=true↔zOs W k now old j s
theorem zGO{W:zE}{k:Nat}{aA bA:List (Int×Int)}(h:zIa W k)(hn:aA=yP W (zJ W k))(ho:bA=zB8 W (zJ W k))(hr:zBk W k aA bA aA.length):zIa W (k+1):=by
 intro i hi j hj x hx y hy;by_cases e:i=k
 ·subst e;obtain⟨h1,h2⟩:=List.mem_filter.1 hx;rw[<-hn]at h1;rw[<-ho]at h2;obtain⟨q,hq,e⟩:=List.getElem_of_mem h1;have:=hr q hq;unfold zk zn at this;rw[yC hq,e]at this;exact this (by simpa using h2) j hj y hy
 ·exact h i (by omega) j hj x hx y hy
theorem zIP{W:zE}{k j:Nat}{aA bA:List (Int×Int)}{f:Nat->Bool}(h:zA6 W k aA bA j f)(cA:(zk aA j,zn aA j)∈bA):zA6 W k aA bA (j+1) f:=by
 intro s;rw[h s];constructor
 ·rintro(h | ⟨q,hq,h⟩)
  ·exact Or.inl h
  ·exact Or.inr ⟨q,by omega,h⟩
 ·rintro(h | ⟨q,hq,h1,h2⟩)
  ·exact Or.inl h
  ·by_cases e:q=j
   ·subst e;exact absurd cA h2
   ·exact Or.inr ⟨q,by omega,h1,h2⟩
theorem zIO{W:zE}{k j s:Nat}{aA bA:List (Int×Int)}{f:Nat->Bool}(h:zA6 W k aA bA j f)(hs:zk aA j=(s:Int))(cA:(zk aA j,zn aA j)∉bA):zA6 W k aA bA (j+1) (fun i=>if i=s then true else f i):=by
 intro i;show(if i=s then true else f i)=true↔_;by_cases e:i=s
 ·subst e;rw[if_pos rfl];exact⟨fun _=>Or.inr ⟨j,by omega,hs,cA⟩,fun _=>rfl⟩
 ·rw[if_neg e,h i];constructor
  ·rintro(h | ⟨q,hq,h⟩)
   ·exact Or.inl h
   ·exact Or.inr ⟨q,by omega,h⟩
  ·rintro(h | ⟨q,hq,h,h2⟩)
   ·exact Or.inl h
   ·by_cases eq:q=j
    ·subst eq;exact absurd (by omega) e
    ·exact Or.inr ⟨q,by omega,h,h2⟩
theorem zKK{W:zE}{k j:Nat}{aA bA:List (Int×Int)}(h:zBk W k aA bA j)(cA:(zk aA j,zn aA j)∈bA):zBk W k aA bA (j+1):=by
 intro q hq;by_cases e:q=j
 ·subst e;exact fun h=>absurd cA h
 ·exact h q (by omega)
theorem zKH{W:zE}{k j s:Nat}{aA bA:List (Int×Int)}{f:Nat->Bool}(h:zBk W k aA bA j)(hS:zA6 W k aA bA j f)(hs:zk aA j=(s:Int))(hf:f s=false):zBk W k aA bA (j+1):=by
 intro q hq;by_cases e:q=j
 ·subst e;intro _ i hi y hy ey;have:f s=true:=(hS s).2 (Or.inl ⟨i,hi,y.2,by rw[<-hs,ey];exact hy⟩);rw[hf]at this;exact absurd this (by simp)
 ·exact h q (by omega)
theorem zIQ{W:zE}{k:Nat}{aA bA:List (Int×Int)}{f:Nat->Bool}(h:zA6 W k aA bA aA.length f)(hn:aA=yP W (zJ W k))(ho:bA=zB8 W (zJ W k)):zA6 W (k+1) [] [] 0 f:=by
 intro s;rw[h s];constructor
 ·rintro(⟨i,hi,h⟩ | ⟨q,hq,e,h2⟩)
  ·exact Or.inl ⟨i,by omega,h⟩
  ·refine Or.inl ⟨k,by omega,(aA[q]).2,?_⟩;unfold zk zn at h2;unfold zk at e;rw[yC hq]at e h2;refine List.mem_filter.2 ⟨?_,?_⟩
   ·rw[<-hn,<-e];exact List.getElem_mem hq
   ·rw[<-ho,<-e];simpa using h2
 ·rintro(⟨i,hi,b,h2⟩ | ⟨q,hq,_⟩)
  ·by_cases e:i=k
   ·subst e;obtain⟨h3,h4⟩:=List.mem_filter.1 h2;rw[<-hn]at h3;rw[<-ho]at h4;obtain⟨q,hq,e⟩:=List.getElem_of_mem h3;refine Or.inr ⟨q,hq,?_⟩;unfold zk zn;rw[yC hq,e];exact⟨rfl,by simpa using h4⟩
   ·exact Or.inl ⟨i,by omega,b,h2⟩
  ·omega
theorem zG2{W:zE}{k:Nat}{f:Nat->Bool}(h:zA6 W k [] [] 0 f)(aA bA:List (Int×Int)):zA6 W k aA bA 0 f:=by
 intro s;rw[h s];constructor
 ·rintro(h | ⟨q,hq,_⟩)
  ·exact Or.inl h
  ·omega
 ·rintro(h | ⟨q,hq,_⟩)
  ·exact Or.inl h
  ·omega
theorem zG3{W:zE}{k j s:Nat}{aA bA:List (Int×Int)}{f:Nat->Bool}(hT:zAj W)(hk:k<zm W)(hn:aA=yP W (zJ W k))(ho:bA=zB8 W (zJ W k))(hS:zA6 W k aA bA j f)(hj:j<aA.length)(hs:zk aA j=(s:Int))(cA:(zk aA j,zn aA j)∉bA)(hf:f s=true):¬zFJ W:=by
 intro hA;rcases(hS s).1 hf with⟨i,hi,b,h⟩ | ⟨q,hq,e,h2⟩
 ·refine hA k hk i hi (zk aA j,zn aA j) ?_ _ h hs;refine List.mem_filter.2 ⟨?_,by rw[<-ho];simpa using cA⟩;rw[<-hn];unfold zk zn;rw[yC hj];exact List.getElem_mem hj
 ·have dA:=zAn hT.right (l:=aA) (fun x hx=>by rw[hn]at hx;exact(zAF hT.right (hT.tree k hk) hx).1) (by rw[hn];exact zAQ hT.right (hT.tree k hk)) (by rw[hn];have:=qK W.zPE (zJ W k).rs (zJ W k).rb;unfold yP;omega);exact dA.2.2 j hj q hq (by rw[e,hs])
theorem zIx(v0 v1 v2 v3:Value)(lo hi:Nat)(W:zE)(w:World)(h:zd w lo hi v0 v1 v2 v3 W)(hT:zAj W)(hP:zBn W)(hs:W.sn<=8)(hp:W.pn<=20) :
  Calls Tryz.prog 77 #[zt v0 v1 v2 v3 W] w fun e w'=>zG (zFJ W) e/\Below w.heap.size w w':=by
 have Hp:=zB h;have HT:=zB hT;have HP:=zB hP;obtain⟨m1,a,c,rfl,mc,-⟩:=id h.zPD;obtain⟨m2,a',c',rfl,pE,-⟩:=id h.zPG;obtain⟨m0,a0,c0,rfl,rE,-⟩:=id h.zPE.1;unfold maxLen at m0 m1 m2;have oE:W.zPE.n<=200:=hT.right.1;clear h hT hP;have nE:=zDe W.zPE.n (by omega);have ha:=zC w (.cells #[.slice a0 W.zPE.n c0,v1,.int .i64 W.time,.int .i64 W.next,.slice a' W.sn c',.slice a W.pn c] 37);have oD:(w.alloc (.cells #[.slice a0 W.zPE.n c0,v1,.int .i64 W.time,.int .i64 W.next,.slice a' W.sn c',.slice a W.pn c] 37)).heap.size=w.heap.size+1:=World.size_alloc _ _;have dE:∀W1:World,W1=w.alloc (.cells #[.slice a0 W.zPE.n c0,v1,.int .i64 W.time,.int .i64 W.next,.slice a' W.sn c',.slice a W.pn c] 37)->zg (W1.alloc (.cells (madeCells #[.bool false] W.zPE.n) 4)) w.heap.size (.slice a0 W.zPE.n c0) v1 (.int .i64 W.time) (.int .i64 W.next) (.slice a' W.sn c') (.slice a W.pn c)/\yQ (W1.alloc (.cells (madeCells #[.bool false] W.zPE.n) 4)) (w.heap.size+1) W.zPE.n (fun _=>false)/\Below w.heap.size w (W1.alloc (.cells (madeCells #[.bool false] W.zPE.n) 4))/\w.heap.size+2<=(W1.alloc (.cells (madeCells #[.bool false] W.zPE.n) 4)).heap.size:=by
  rintro W1 rfl;have hB:=zg.new w (.slice a0 W.zPE.n c0) v1 (.int .i64 W.time) (.int .i64 W.next) (.slice a' W.sn c') (.slice a W.pn c) 37;have hR:=yQ.new (w.alloc (.cells #[.slice a0 W.zPE.n c0,v1,.int .i64 W.time,.int .i64 W.next,.slice a' W.sn c',.slice a W.pn c] 37)) W.zPE.n 4;rw[oD]at hR;generalize w.alloc (.cells #[.slice a0 W.zPE.n c0,v1,.int .i64 W.time,.int .i64 W.next,.slice a' W.sn c',.slice a W.pn c] 37)=W1 at *;have b2:=zC W1 (.cells (madeCells #[.bool false] W.zPE.n) 4);exact⟨hB.zO9 b2,hR,zA ha b2,by rw[World.size_alloc,oD];omega⟩
 have aE:=zB (dE _ rfl);clear dE;go_enter Tryz.func77,Tryz.ntmps77;obtain⟨⟨x0,x1⟩,⟨x2,x3⟩,⟨x4,x5⟩,⟨x6,x7⟩,⟨x8,x9⟩,⟨mA,nA⟩⟩:=zg.new w (.slice a0 W.zPE.n c0) v1 (.int .i64 W.time) (.int .i64 W.next) (.slice a' W.sn c') (.slice a W.pn c) 37;go_wp2;clear x0 x1 x2 x3 x4 x5 x6 x7 x8 x9 mA nA ha
 go_loopw [4] (fun i wr=>∃k:Nat,∃f,k<=W.pn+W.sn/\i = .int .i64 k/\zg wr w.heap.size (.slice a0 W.zPE.n c0) v1 (.int .i64 W.time) (.int .i64 W.next) (.slice a' W.sn c') (.slice a W.pn c)/\yQ wr (w.heap.size+1) W.zPE.n f/\zA6 W k [] [] 0 f/\zIa W k/\Below w.heap.size w wr/\w.heap.size+2<=wr.heap.size) (fun i _=>W.pn+W.sn - (intOf i).toNat)
 case atStart=>
  obtain⟨s1,s2,s3,s4⟩:=aE.out;exact⟨0,fun _=>false,Nat.zero_le _,rfl,s1,s2,fun s=>⟨fun h=>absurd h (by simp),fun h=>by rcases h with⟨i,hi,_⟩ | ⟨q,hq,_⟩<;>omega⟩,fun i hi=>absurd hi (Nat.not_lt_zero _),s3,s4⟩
 case round=>
  clear aE oD;obtain⟨k,f,hk,rfl,hX,hR,hS,hA,hb,hz⟩:=hrel;have HX:=zB hX;have eA:=zB hR;have HS:=zB hS;have HA:=zB hA;clear hX hR hS hA;obtain⟨⟨x0,x1⟩,⟨x2,x3⟩,⟨x4,x5⟩,⟨x6,x7⟩,⟨x8,x9⟩,⟨mA,nA⟩⟩:=HX.out;by_cases mE:k<W.pn+W.sn
  ·have jE:(k:Int)<(W.pn+W.sn:Int):=(by omega);by_cases cE:k<W.pn
   ·have mD:(k:Int)<(W.pn:Int):=(by omega);obtain⟨b,off,vd,rfl,kB⟩:=(Hp.out.zPD.zO9 hb).cells cE;have q3:=kB.c3;have q5:=kB.c5;have q6:=kB.c6;have Hm:=zB (show(zJ W k).zPH=(W.zPD k).zPH/\(zJ W k).rs=(W.zPD k).rs/\(zJ W k).rb=(W.zPD k).rb from by rw[qA cE];exact⟨rfl,rfl,rfl⟩);clear kB;have dA:=zC wr (.cells #[.int .i64 0,.int .i64 0] 61);have nC:=zB (HX.out.zO9 dA);have lC:=zB (zp.new wr (.int .i64 0) (.int .i64 0) 61);have fD:=zB (eA.out.zO9 dA);have r3:=(dA.cell (zD q3)).trans q3;have r5:=(dA.cell (zD q5)).trans q5;have r6:=(dA.cell (zD q6)).trans q6;have jD:=zA hb dA;have pD:(wr.alloc (.cells #[.int .i64 0,.int .i64 0] 61)).heap.size=wr.heap.size+1:=World.size_alloc _ _;have lD:b<wr.heap.size:=zD q3;have eC:w.heap.size≠wr.heap.size:=(by omega);have fC:b≠wr.heap.size:=(by omega);obtain⟨⟨y0,y1⟩,⟨y2,y3⟩,⟨y4,y5⟩,⟨y6,y7⟩,⟨y8,y9⟩,⟨rD,sD⟩⟩:=nC.out;obtain⟨⟨p0,p1⟩,⟨p2,p3⟩⟩:=lC.out;generalize bD:(W.zPD k).zPH=x at *;generalize aB:(W.zPD k).rs=rs at *;generalize sA:(W.zPD k).rb=rb at *;have iD:=zB (And.intro bD (And.intro aB sA));clear bD aB sA;have jB:=zC wr (.cells #[.int .i64 rs,.int .i64 rb] 61);have cB:=zB (HX.out.zO9 jB);have pB:=zB (zp.new wr (.int .i64 rs) (.int .i64 rb) 61);have mB:=zB (eA.out.zO9 jB);have gB:=zA hb jB;obtain⟨⟨z0,z1⟩,⟨z2,z3⟩,⟨z4,z5⟩,⟨z6,z7⟩,⟨z8,z9⟩,⟨tD,vD⟩⟩:=cB.out;go_wp2_with fail;clear x0 x1 x2 x3 x4 x5 x6 x7 x8 x9 mA nA y0 y1 y2 y3 y4 y5 y6 y7 y8 y9 rD sD z0 z1 z2 z3 z4 z5 z6 z7 z8 z9 tD vD p0 p1 p2 p3 r3 r5 r6 q3 q5 q6 nC lC fD jD dA pD eC fC lD jB;have cD:w.heap.size+2<=(wr.alloc (.cells #[.int .i64 rs,.int .i64 rb] 61)).heap.size:=(by rw[World.size_alloc];omega);generalize wr.alloc (.cells #[.int .i64 rs,.int .i64 rb] 61)=W3 at cB pB mB gB cD ⊢;refine(zA1 _ v1 _ _ lo hi W x W3 (Hp.out.zO9 gB)).mono ?_;rintro e w1 ⟨s,bb,t,rfl,hF,iA⟩;have hq:=zEn HP.out hF;have rC:=zB (show zz W.zPE s bb by rw[hq.1,hq.2.1];exact HT.out.old x);have bC:=zB (show zz W.zPE rs rb by have:=HT.out.tree k (by unfold zm;omega);rw[Hm.out.2.1,Hm.out.2.2]at this;exact this);have HE:=zB (show zX W.zPE rs rb=yP W (zJ W k)/\zX W.zPE s bb=zB8 W (zJ W k)by unfold yP zB8;rw[Hm.out.1,Hm.out.2.1,Hm.out.2.2,hq.1,hq.2.1];exact⟨rfl,rfl⟩);have gA:=zC w1 (.cells #[.int .i64 s,.int .i64 bb] 61);have dB:=zB ((cB.out.zO9 iA).zO9 gA);have rB:=zB ((pB.out.zO9 iA).zO9 gA);have nB:=zB ((mB.out.zO9 iA).zO9 gA);have tB:=zB (zp.new w1 (.int .i64 s) (.int .i64 bb) 61);have iB:=zA (zA gB iA) gA;have gC:w.heap.size+2<=(w1.alloc (.cells #[.int .i64 s,.int .i64 bb] 61)).heap.size:=(by have h1:=iA.size;have h2:=gA.size;omega);clear hq hF iA gA cB pB mB gB cD iD Hm;obtain⟨⟨x0,x1⟩,⟨x2,x3⟩,⟨x4,x5⟩,⟨x6,x7⟩,⟨x8,x9⟩,⟨mA,nA⟩⟩:=dB.out;obtain⟨⟨p0,p1⟩,⟨p2,p3⟩⟩:=tB.out;clear x4 x5 x6 x7 x8 x9 mA nA x1 x3 p1 p3;go_wp2_with fail;clear x0 x2 p0 p2;generalize w1.alloc (.cells #[.int .i64 s,.int .i64 bb] 61)=w4 at dB rB nB tB iB gC ⊢;refine(yh _ v1 lo hi W.zPE s bb w4 (Hp.out.zPE.zO9 iB) HT.out.right rC.out).mono ?_;rintro e w5 ⟨vo,rfl,vA,jA⟩;have sB:=zB (dB.out.zO9 jA);have mC:=zB (rB.out.zO9 jA);have jC:=zB (nB.out.zO9 jA);have fA:=zB (vA.mono gC);have cC:=zA iB jA;have dD:w.heap.size+2<=w5.heap.size:=(by have h1:=jA.size;omega);clear vA jA dB rB nB tB iB gC rC;obtain⟨⟨x0,x1⟩,⟨x2,x3⟩,⟨x4,x5⟩,⟨x6,x7⟩,⟨x8,x9⟩,⟨mA,nA⟩⟩:=sB.out;obtain⟨⟨p0,p1⟩,⟨p2,p3⟩⟩:=mC.out;clear x4 x5 x6 x7 x8 x9 mA nA x1 x3 p1 p3;go_wp2_with fail;clear x0 x2 p0 p2;refine(yh _ v1 lo hi W.zPE rs rb w5 (Hp.out.zPE.zO9 cC) HT.out.right bC.out).mono ?_;rintro e w6 ⟨vn,rfl,tA,kA⟩;have oC:=zB (sB.out.zO9 kA);have kC:=zB (jC.out.zO9 kA);have pA:=zB (fA.out.zO9 kA);have bA:=zB (tA.mono dD);have tC:=zA cC kA;have eD:w.heap.size+2<=w6.heap.size:=(by have h1:=kA.size;omega);have gD:=zB (fun j (hj:j<(zX W.zPE rs rb).length)=>zG9 HT.out.right bC.out hj);have gE:=qK W.zPE rs rb;have iE:=qK W.zPE s bb;clear tA kA sB mC jC fA cC dD bC;obtain⟨an,cn,rfl,eE⟩:=za bA.out;generalize zX W.zPE rs rb=now at *;generalize zX W.zPE s bb=old at *;go_wp2
    go_loopw [11] (fun i lA=>∃j:Nat,∃f,j<=now.length/\i = .int .i64 j/\qE lA (w.heap.size+2) vo old/\qE lA (w.heap.size+2) (.slice an now.length cn) now/\zg lA w.heap.size (.slice a0 W.zPE.n c0) v1 (.int .i64 W.time) (.int .i64 W.next) (.slice a' W.sn c') (.slice (some ⟨b,off,none⟩) W.pn c)/\yQ lA (w.heap.size+1) W.zPE.n f/\zA6 W k now old j f/\zBk W k now old j/\Below w.heap.size w lA/\w.heap.size+2<=lA.heap.size) (fun i _=>now.length - (intOf i).toNat)
    case atStart=>exact⟨0,f,Nat.zero_le _,rfl,pA.out,bA.out,oC.out,kC.out,zG2 HS.out _ _,fun q hq=>absurd hq (Nat.not_lt_zero _),tC,eD⟩
    case round=>
     clear oC kC pA bA tC eD HS HX eA hb hz;obtain⟨j,f,hj,rfl,vA,tA,hX,hR,hS,sC,hb,hz⟩:=hrel;have fA:=zB vA;have aC:=zB tA;have HX:=zB hX;have eA:=zB hR;have HS:=zB hS;have lB:=zB sC;clear vA tA hX hR hS sC;by_cases dC:j<now.length
     ·have kD:(j:Int)<(now.length:Int):=(by omega);obtain⟨b2,iC,rfl,q0,q1⟩:=(aC.out.atW (by omega)).zPC dC;obtain⟨sl,vC,nD⟩:=gD.out j dC;have kE:(sl:Int)<(W.zPE.n:Int):=(by omega);have fB:=zB vC;clear vC;go_wp2_with fail;refine(zCe _ old.length 0 _ (zk old) (zn old) (zk now j) (zn now j) _ (fA.out.atW (by omega))).mono ?_;rintro e w7 ⟨⟨t7,rfl,aD⟩,aA⟩;have eB:=zB (aD.trans zAc);have z0:=(aA.cell (p:=⟨b2,iC+j*2,none⟩) (zD q0)).trans q0;have rA:=zB (fA.out.zO9 aA);have oA:=zB (aC.out.zO9 aA);have pC:=zB (HX.out.zO9 aA);have oB:=zB (eA.out.zO9 aA);have cA:=zA hb aA;have bB:w.heap.size+2<=w7.heap.size:=(by have h1:=aA.size;omega);clear aD aA q0 q1 fA aC HX eA hb hz;cases t7
      ·have Hn:=zB (show(zk now j,zn now j)∉old from fun h=>absurd (eB.out.2 h) (by simp));clear eB;rw[fB.out]at z0;obtain⟨y0,y1⟩:=oB.out sl nD;cases hfs:f sl
       ·have vB:=zB hfs;rw[hfs]at y0;clear hfs;go_wp2;go_roundw
        case rel=>exact⟨j+1,_,by omega,by go_num,rA.out.put (by omega) _,oA.out.put (by omega) _,pC.out.zPF (zF.put _ (w.heap.size+1) sl _) (by omega),oB.out.put true,zIO HS.out fB.out Hn.out,zKH lB.out HS.out fB.out vB.out,cA.setCell (show w.heap.size<=w.heap.size+1 by omega) _,by rw[World.size_setCell];exact bB⟩
        case measure=>simp[intOf];omega
       ·have vB:=zB hfs;rw[hfs]at y0;clear hfs;go_wp2;go_ret;exact⟨zG.no (zG3 HT.out (by unfold zm;omega) HE.out.1 HE.out.2 HS.out dC fB.out Hn.out vB.out),cA⟩
      ·have Hn:=zB (eB.out.1 rfl);clear eB;go_wp2;go_roundw
       case rel=>exact⟨j+1,f,by omega,by go_num,rA.out,oA.out,pC.out,oB.out,zIP HS.out Hn.out,zKK lB.out Hn.out,cA,bB⟩
       case measure=>simp[intOf];omega
     ·obtain rfl:j=now.length:=(by omega);go_wp2;go_roundw
      case rel=>exact⟨k+1,f,by omega,by go_num,HX.out,eA.out,zIQ HS.out HE.out.1 HE.out.2,zGO HA.out HE.out.1 HE.out.2 lB.out,hb,hz⟩
      case measure=>simp[intOf];omega
   ·have mD:¬(k:Int)<(W.pn:Int):=(by omega);have bE:k - W.pn<W.sn:=(by omega);have lE:(k:Int) - (W.pn:Int)=((k - W.pn:Nat):Int):=(Int.ofNat_sub (by omega)).symm;have fE:((k - W.pn:Nat):Int)<(W.sn:Int):=Int.ofNat_lt.2 bE;obtain⟨b,off,vd,rfl,kB⟩:=(Hp.out.zPG.zO9 hb).cells bE;have q3:=kB.c2;have q5:=kB.c3;have q6:=kB.c4;have Hm:=zB (show(zJ W k).zPH=(W.zPG (k - W.pn)).zPH/\(zJ W k).rs=(W.zPG (k - W.pn)).rs/\(zJ W k).rb=(W.zPG (k - W.pn)).rb from by have e:=qz W (k - W.pn);rw[show W.pn+(k - W.pn)=k by omega]at e;rw[e];exact⟨rfl,rfl,rfl⟩);clear kB;have dA:=zC wr (.cells #[.int .i64 0,.int .i64 0] 61);have nC:=zB (HX.out.zO9 dA);have lC:=zB (zp.new wr (.int .i64 0) (.int .i64 0) 61);have fD:=zB (eA.out.zO9 dA);have r3:=(dA.cell (zD q3)).trans q3;have r5:=(dA.cell (zD q5)).trans q5;have r6:=(dA.cell (zD q6)).trans q6;have jD:=zA hb dA;have pD:(wr.alloc (.cells #[.int .i64 0,.int .i64 0] 61)).heap.size=wr.heap.size+1:=World.size_alloc _ _;have lD:b<wr.heap.size:=zD q3;have eC:w.heap.size≠wr.heap.size:=(by omega);have fC:b≠wr.heap.size:=(by omega);obtain⟨⟨y0,y1⟩,⟨y2,y3⟩,⟨y4,y5⟩,⟨y6,y7⟩,⟨y8,y9⟩,⟨rD,sD⟩⟩:=nC.out;obtain⟨⟨p0,p1⟩,⟨p2,p3⟩⟩:=lC.out;generalize bD:(W.zPG (k - W.pn)).zPH=x at *;generalize aB:(W.zPG (k - W.pn)).rs=rs at *;generalize sA:(W.zPG (k - W.pn)).rb=rb at *;have iD:=zB (And.intro bD (And.intro aB sA));clear bD aB sA;have jB:=zC wr (.cells #[.int .i64 rs,.int .i64 rb] 61);have cB:=zB (HX.out.zO9 jB);have pB:=zB (zp.new wr (.int .i64 rs) (.int .i64 rb) 61);have mB:=zB (eA.out.zO9 jB);have gB:=zA hb jB;obtain⟨⟨z0,z1⟩,⟨z2,z3⟩,⟨z4,z5⟩,⟨z6,z7⟩,⟨z8,z9⟩,⟨tD,vD⟩⟩:=cB.out;go_wp2_with fail;clear x0 x1 x2 x3 x4 x5 x6 x7 x8 x9 mA nA y0 y1 y2 y3 y4 y5 y6 y7 y8 y9 rD sD z0 z1 z2 z3 z4 z5 z6 z7 z8 z9 tD vD p0 p1 p2 p3 r3 r5 r6 q3 q5 q6 nC lC fD jD dA pD eC fC lD jB;have cD:w.heap.size+2<=(wr.alloc (.cells #[.int .i64 rs,.int .i64 rb] 61)).heap.size:=(by rw[World.size_alloc];omega);generalize wr.alloc (.cells #[.int .i64 rs,.int .i64 rb] 61)=W3 at cB pB mB gB cD ⊢;refine(zA1 _ v1 _ _ lo hi W x W3 (Hp.out.zO9 gB)).mono ?_;rintro e w1 ⟨s,bb,t,rfl,hF,iA⟩;have hq:=zEn HP.out hF;have rC:=zB (show zz W.zPE s bb by rw[hq.1,hq.2.1];exact HT.out.old x);have bC:=zB (show zz W.zPE rs rb by have:=HT.out.tree k (by unfold zm;omega);rw[Hm.out.2.1,Hm.out.2.2]at this;exact this);have HE:=zB (show zX W.zPE rs rb=yP W (zJ W k)/\zX W.zPE s bb=zB8 W (zJ W k)by unfold yP zB8;rw[Hm.out.1,Hm.out.2.1,Hm.out.2.2,hq.1,hq.2.1];exact⟨rfl,rfl⟩);have gA:=zC w1 (.cells #[.int .i64 s,.int .i64 bb] 61);have dB:=zB ((cB.out.zO9 iA).zO9 gA);have rB:=zB ((pB.out.zO9 iA).zO9 gA);have nB:=zB ((mB.out.zO9 iA).zO9 gA);have tB:=zB (zp.new w1 (.int .i64 s) (.int .i64 bb) 61);have iB:=zA (zA gB iA) gA;have gC:w.heap.size+2<=(w1.alloc (.cells #[.int .i64 s,.int .i64 bb] 61)).heap.size:=(by have h1:=iA.size;have h2:=gA.size;omega);clear hq hF iA gA cB pB mB gB cD iD Hm;obtain⟨⟨x0,x1⟩,⟨x2,x3⟩,⟨x4,x5⟩,⟨x6,x7⟩,⟨x8,x9⟩,⟨mA,nA⟩⟩:=dB.out;obtain⟨⟨p0,p1⟩,⟨p2,p3⟩⟩:=tB.out;clear x4 x5 x6 x7 x8 x9 mA nA x1 x3 p1 p3;go_wp2_with fail;clear x0 x2 p0 p2;generalize w1.alloc (.cells #[.int .i64 s,.int .i64 bb] 61)=w4 at dB rB nB tB iB gC ⊢;refine(yh _ v1 lo hi W.zPE s bb w4 (Hp.out.zPE.zO9 iB) HT.out.right rC.out).mono ?_;rintro e w5 ⟨vo,rfl,vA,jA⟩;have sB:=zB (dB.out.zO9 jA);have mC:=zB (rB.out.zO9 jA);have jC:=zB (nB.out.zO9 jA);have fA:=zB (vA.mono gC);have cC:=zA iB jA;have dD:w.heap.size+2<=w5.heap.size:=(by have h1:=jA.size;omega);clear vA jA dB rB nB tB iB gC rC;obtain⟨⟨x0,x1⟩,⟨x2,x3⟩,⟨x4,x5⟩,⟨x6,x7⟩,⟨x8,x9⟩,⟨mA,nA⟩⟩:=sB.out;obtain⟨⟨p0,p1⟩,⟨p2,p3⟩⟩:=mC.out;clear x4 x5 x6 x7 x8 x9 mA nA x1 x3 p1 p3;go_wp2_with fail;clear x0 x2 p0 p2;refine(yh _ v1 lo hi W.zPE rs rb w5 (Hp.out.zPE.zO9 cC) HT.out.right bC.out).mono ?_;rintro e w6 ⟨vn,rfl,tA,kA⟩;have oC:=zB (sB.out.zO9 kA);have kC:=zB (jC.out.zO9 kA);have pA:=zB (fA.out.zO9 kA);have bA:=zB (tA.mono dD);have tC:=zA cC kA;have eD:w.heap.size+2<=w6.heap.size:=(by have h1:=kA.size;omega);have gD:=zB (fun j (hj:j<(zX W.zPE rs rb).length)=>zG9 HT.out.right bC.out hj);have gE:=qK W.zPE rs rb;have iE:=qK W.zPE s bb;clear tA kA sB mC jC fA cC dD bC;obtain⟨an,cn,rfl,eE⟩:=za bA.out;generalize zX W.zPE rs rb=now at *;generalize zX W.zPE s bb=old at *;go_wp2
    go_loopw [11] (fun i lA=>∃j:Nat,∃f,j<=now.length/\i = .int .i64 j/\qE lA (w.heap.size+2) vo old/\qE lA (w.heap.size+2) (.slice an now.length cn) now/\zg lA w.heap.size (.slice a0 W.zPE.n c0) v1 (.int .i64 W.time) (.int .i64 W.next) (.slice (some ⟨b,off,none⟩) W.sn c') (.slice a W.pn c)/\yQ lA (w.heap.size+1) W.zPE.n f/\zA6 W k now old j f/\zBk W k now old j/\Below w.heap.size w lA/\w.heap.size+2<=lA.heap.size) (fun i _=>now.length - (intOf i).toNat)
    case atStart=>exact⟨0,f,Nat.zero_le _,rfl,pA.out,bA.out,oC.out,kC.out,zG2 HS.out _ _,fun q hq=>absurd hq (Nat.not_lt_zero _),tC,eD⟩
    case round=>
     clear oC kC pA bA tC eD HS HX eA hb hz;obtain⟨j,f,hj,rfl,vA,tA,hX,hR,hS,sC,hb,hz⟩:=hrel;have fA:=zB vA;have aC:=zB tA;have HX:=zB hX;have eA:=zB hR;have HS:=zB hS;have lB:=zB sC;clear vA tA hX hR hS sC;by_cases dC:j<now.length
     ·have kD:(j:Int)<(now.length:Int):=(by omega);obtain⟨b2,iC,rfl,q0,q1⟩:=(aC.out.atW (by omega)).zPC dC;obtain⟨sl,vC,nD⟩:=gD.out j dC;have kE:(sl:Int)<(W.zPE.n:Int):=(by omega);have fB:=zB vC;clear vC;go_wp2_with fail;refine(zCe _ old.length 0 _ (zk old) (zn old) (zk now j) (zn now j) _ (fA.out.atW (by omega))).mono ?_;rintro e w7 ⟨⟨t7,rfl,aD⟩,aA⟩;have eB:=zB (aD.trans zAc);have z0:=(aA.cell (p:=⟨b2,iC+j*2,none⟩) (zD q0)).trans q0;have rA:=zB (fA.out.zO9 aA);have oA:=zB (aC.out.zO9 aA);have pC:=zB (HX.out.zO9 aA);have oB:=zB (eA.out.zO9 aA);have cA:=zA hb aA;have bB:w.heap.size+2<=w7.heap.size:=(by have h1:=aA.size;omega);clear aD aA q0 q1 fA aC HX eA hb hz;cases t7
      ·have Hn:=zB (show(zk now j,zn now j)∉old from fun h=>absurd (eB.out.2 h) (by simp));clear eB;rw[fB.out]at z0;obtain⟨y0,y1⟩:=oB.out sl nD;cases hfs:f sl
       ·have vB:=zB hfs;rw[hfs]at y0;clear hfs;go_wp2;go_roundw
        case rel=>exact⟨j+1,_,by omega,by go_num,rA.out.put (by omega) _,oA.out.put (by omega) _,pC.out.zPF (zF.put _ (w.heap.size+1) sl _) (by omega),oB.out.put true,zIO HS.out fB.out Hn.out,zKH lB.out HS.out fB.out vB.out,cA.setCell (show w.heap.size<=w.heap.size+1 by omega) _,by rw[World.size_setCell];exact bB⟩
        case measure=>simp[intOf];omega
       ·have vB:=zB hfs;rw[hfs]at y0;clear hfs;go_wp2;go_ret;exact⟨zG.no (zG3 HT.out (by unfold zm;omega) HE.out.1 HE.out.2 HS.out dC fB.out Hn.out vB.out),cA⟩
      ·have Hn:=zB (eB.out.1 rfl);clear eB;go_wp2;go_roundw
       case rel=>exact⟨j+1,f,by omega,by go_num,rA.out,oA.out,pC.out,oB.out,zIP HS.out Hn.out,zKK lB.out Hn.out,cA,bB⟩
       case measure=>simp[intOf];omega
     ·obtain rfl:j=now.length:=(by omega);go_wp2;go_roundw
      case rel=>exact⟨k+1,f,by omega,by go_num,HX.out,eA.out,zIQ HS.out HE.out.1 HE.out.2,zGO HA.out HE.out.1 HE.out.2 lB.out,hb,hz⟩
      case measure=>simp[intOf];omega
  ·obtain rfl:k=W.pn+W.sn:=(by omega);go_wp2;go_ret;exact⟨zG.yes HA.out,hb⟩
def qD(W:zE)(x:Int):Prop:=∃k,k<W.pn/\(W.zPD k).id=x
def zFL(W:zE)(x:ByteArray):Prop:=∃k,k<W.sn/\(W.zPG k).name=x
def zD4(W:zE)(i:Nat):Prop:=yE (W.zPG i).name/\(0<i->zCW (W.zPG (i - 1)).name (W.zPG i).name)/\((W.zPG i).zPH≠0->qD W (W.zPG i).zPH)/\((W.zPG i).origin≠0->qD W (W.zPG i).origin)
def zFj(W:zE)(i:Nat):Prop:=1<=(W.zPD i).id/\(W.zPD i).id<W.next/\1<=(W.zPD i).time/\(W.zPD i).time<W.time/\yE (W.zPD i).name/\zFL W (W.zPD i).set
def zEm(W:zE)(i:Nat):Prop:=(0<i->(W.zPD (i - 1)).id<(W.zPD i).id/\(W.zPD (i - 1)).time<(W.zPD i).time)/\((W.zPD i).zPH≠0->(W.zPD i).zPH<(W.zPD i).id/\qD W (W.zPD i).zPH)
def zMx(W:zE)(i j:Nat):Prop:=∀k,k<j->¬((W.zPD k).set=(W.zPD i).set/\(W.zPD k).name=(W.zPD i).name)
def zMy(W:zE)(i:Nat):Prop:=zFj W i/\zEm W i/\zMx W i i
def zAi(W:zE):Prop:=zBM W.time 1 900000/\zBM W.next 1 900000/\W.sn<=8/\W.pn<=20/\(∀i,i<W.sn->zD4 W i)/\∀i,i<W.pn->zMy W i
theorem qb{W:zE}{x r:Int}(h:zEe W.pn (fun k=>(W.zPD k).id=x) r):(qD W x/\0<=r/\r<W.pn/\(W.zPD r.toNat).id=x)\/(¬qD W x/\r = -1):=by
 rcases h with⟨k,hk,e,_,rfl⟩ | ⟨hn,rfl⟩
 ·exact Or.inl ⟨⟨k,hk,e⟩,by omega,by omega,by simpa using e⟩
 ·exact Or.inr ⟨fun ⟨k,hk,e⟩=>hn k hk e,rfl⟩
theorem zMG{W:zE}{x:ByteArray}{r:Int}(h:zEe W.sn (fun k=>(W.zPG k).name=x) r):(zFL W x/\0<=r)\/(¬zFL W x/\r = -1):=by
 rcases h with⟨k,hk,e,_,rfl⟩ | ⟨hn,rfl⟩
 ·exact Or.inl ⟨⟨k,hk,e⟩,by omega⟩
 ·exact Or.inr ⟨fun ⟨k,hk,e⟩=>hn k hk e,rfl⟩
def yx(w:World)(b:Nat)(v0 v1 v2 v3 v4 v5 v6 v7:Value):Prop:=(zQ w b 0 v0/\zQ w b 1 v1/\zQ w b 2 v2/\zQ w b 3 v3)/\(zQ w b 4 v4/\zQ w b 5 v5/\zQ w b 6 v6/\zQ w b 7 v7)
theorem yx.zO9{w w':World}{b:Nat}{v0 v1 v2 v3 v4 v5 v6 v7:Value}(h:yx w b v0 v1 v2 v3 v4 v5 v6 v7)(t:Below w.heap.size w w'):yx w' b v0 v1 v2 v3 v4 v5 v6 v7:=
 ⟨⟨h.1.1.zO9 t,h.1.2.1.zO9 t,h.1.2.2.1.zO9 t,h.1.2.2.2.zO9 t⟩,h.2.1.zO9 t,h.2.2.1.zO9 t,h.2.2.2.1.zO9 t,h.2.2.2.2.zO9 t⟩
theorem yx.new(w:World)(v0 v1 v2 v3 v4 v5 v6 v7:Value)(t:TypeId):yx (w.alloc (.cells #[v0,v1,v2,v3,v4,v5,v6,v7] t)) w.heap.size v0 v1 v2 v3 v4 v5 v6 v7:=by
 have hb:(w.alloc (.cells #[v0,v1,v2,v3,v4,v5,v6,v7] t)).heap[w.heap.size]?=some (.cells #[v0,v1,v2,v3,v4,v5,v6,v7] t):=heap_alloc_new _ _;exact⟨⟨zH hb rfl,zH hb rfl,zH hb rfl,zH hb rfl⟩,zH hb rfl,zH hb rfl,zH hb rfl,zH hb rfl⟩
end Go.Proofs.YtmgeglgboadfiaaGreatDoor
