/- What spec.l02Born, spec.l02Old, spec.l02Some and impl.bornLast answer. -/
import Derived.Test.YtmgeglgboadfiaaGreatDoorV16
set_option linter.unusedVariables false
set_option maxRecDepth 20000
set_option maxHeartbeats 4000000
namespace Go.Proofs.YtmgeglgboadfiaaGreatDoor
open Go.RowKit
def yB(rb zRi:Int):Prop:=qi zRi/\rb<=zRi
theorem zK3(xs xb zRi:Int)(w:World):Calls Tryz.prog 98 #[.agg #[.int .i64 xs,.int .i64 xb],.int .i64 zRi] w fun e w'=>zG (yB xb zRi) e/\Below w.heap.size w w':=by
 have aA:=zC w (.cells #[.int .i64 xs,.int .i64 xb] 61);by_cases h3:qi zRi
 ·have H3:=zE h3;clear h3;by_cases h:xb<=zRi
  ·go_enter Tryz.func98,Tryz.ntmps98;go_wp2_with (first | (go_at_call 156;refine(qN zRi _).mono ?_;rintro e w1 ⟨⟨t,rfl,ht⟩,rfl⟩;obtain rfl:t=true:=ht.2 H3.out;clear ht) | fail);go_wp2;go_ret;exact⟨⟨_,rfl,by simp[yB,H3.out,h]⟩,aA⟩
  ·go_enter Tryz.func98,Tryz.ntmps98;go_wp2_with (first | (go_at_call 156;refine(qN zRi _).mono ?_;rintro e w1 ⟨⟨t,rfl,ht⟩,rfl⟩;obtain rfl:t=true:=ht.2 H3.out;clear ht) | fail);go_wp2;go_ret;exact⟨⟨_,rfl,by first | (simp[yB,H3.out];done) | (simp[yB,H3.out];omega)⟩,aA⟩
 ·have H3:=zE h3;clear h3;go_enter Tryz.func98,Tryz.ntmps98;go_wp2_with (first | (go_at_call 156;refine(qN zRi _).mono ?_;rintro e w1 ⟨⟨t,rfl,ht⟩,rfl⟩;obtain rfl:t=false:=zQ ht H3.out;clear ht) | fail);go_wp2;go_ret;exact⟨zG.no (fun hx=>H3.out hx.1),aA⟩
theorem zPs{p:zI}{xs xb zRi:Int}(h:qp p xs xb):((∀i,i<(zR p xs xb).length->¬zRi<zh (zR p xs xb) i)/\qi zRi)↔yB xb zRi:=by
 constructor
 ·rintro⟨h1,h2⟩;refine⟨h2,?_⟩;by_cases hz:Nil xs xb
  ·rw[hz.2];have:=h2.1;omega
  ·have e:zR p xs xb=(xs,xb) :: zAz p (p.s xs.toNat) 8:=if_neg hz;have:=h1 0 (by rw[e];simp);rw[e]at this;have e2:zh ((xs,xb) :: zAz p (p.s xs.toNat) 8) 0=xb:=rfl;rw[e2]at this;omega
 ·rintro⟨h1,h2⟩;refine⟨fun i hi aA=>?_,h1⟩;by_cases hz:Nil xs xb
  ·have e:zR p xs xb = []:=if_pos hz;rw[e]at hi;simp at hi
  ·have hm:(zf (zR p xs xb) i,zh (zR p xs xb) i)∈zR p xs xb:=by
    have:(zf (zR p xs xb) i,zh (zR p xs xb) i)=(zR p xs xb)[i]:=by
     unfold zf zh;rw[List.getD_eq_getElem?_getD,List.getElem?_eq_getElem hi,Option.getD_some]
    rw[this];exact List.getElem_mem hi
   have:=(zDD h.1 (h.2.resolve_left hz).1.1 _ hm).2;have e:(zf (zR p xs xb) i,zh (zR p xs xb) i).2=zh (zR p xs xb) i:=rfl;omega
theorem zLv(v0 v1:Value)(lo hi:Nat)(p:zI)(xs xb zRi:Int)(w:World)(h1:zu w lo hi v0 v1 p)(hT:qp p xs xb) :
  Calls Tryz.prog 79 #[.agg #[v0,v1],.agg #[.int .i64 xs,.int .i64 xb],.int .i64 zRi] w fun e w'=>zG (yB xb zRi) e/\Below w.heap.size w w':=by
 have Hp:=zE h1;have HT:=zE hT;have bA:=zE (zPs (zRi:=zRi) hT);obtain⟨a,c,a',c',rfl,rfl⟩:∃a c a' c',v0 = .slice a p.n c/\v1 = .slice a' p.hn c':=by
  obtain⟨⟨_,a,c,h1,_⟩,⟨_,a',c',h3,_⟩⟩:=h1;exact⟨a,c,a',c',h1,h3⟩
 clear h1 hT;have iA:=zB2 w (.slice a p.n c) (.slice a' p.hn c') (.int .i64 xs) (.int .i64 xb) 33 61;have fA:=qL p xs xb;go_enter Tryz.func79,Tryz.ntmps79;go_wp2_with fail;generalize (w.alloc (.cells #[.slice a p.n c,.slice a' p.hn c'] 33)).alloc (.cells #[.int .i64 xs,.int .i64 xb] 61)=W at iA ⊢;obtain⟨hB,hX,eA,hz⟩:=iA;refine(ye _ _ lo hi p xs xb W (Hp.out.zRX eA) HT.out.1 HT.out.2).mono ?_;rintro e w1 ⟨v,rfl,hr,jA⟩;obtain⟨va,vc,rfl,_⟩:=zY hr;have Hr:=zE hr;have kA:=zA eA jA;clear hr jA hB hX eA hz;generalize zR p xs xb=l at Hr bA fA ⊢;go_wp2
 go_loopw [8] (fun i wr=>∃k:Nat,k<=l.length/\i = .int .i64 k/\(∀i,i<k->¬zRi<zh l i)/\w1=wr) (fun i _=>l.length - (intOf i).toNat)
 case atStart=>exact⟨0,Nat.zero_le _,rfl,fun i hi=>absurd hi (Nat.not_lt_zero _),rfl⟩
 case round=>
  obtain⟨k,hk,rfl,dA,rfl⟩:=hrel;have cA:=zE dA;clear dA;by_cases gA:k<l.length
  ·have lA:(k:Int)<(l.length:Int):=(by omega);obtain⟨b,mA,e,_,_,_,aA⟩:=qY Hr.out (by omega);simp only[Value.slice.injEq,true_and]at e;obtain⟨rfl,rfl⟩:=e;have q2:w1.cell? ⟨b,k*2+1,none⟩=some (.int .i64 (zh l k)):=(aA _ _ (zBT l k gA).2).1;clear aA;generalize hs:zh l k=y at q2;have Hs:=zE hs;clear hs;by_cases hb:zRi<y
   ·go_wp2;go_ret;exact⟨zG.no (fun h=>by have:=(bA.out.2 h).1 k gA;rw[Hs.out]at this;omega),kA⟩
   ·go_wp2;go_roundw
    case rel=>exact⟨k+1,by omega,by go_num,zo gA cA.out (by rw[Hs.out];omega),trivial⟩
    case measure=>simp[intOf];omega
  ·obtain rfl:k=l.length:=(by omega);go_wp2_with (first | (go_at_call 145;refine(yY zRi _).mono ?_;rintro e w2 ⟨⟨t,rfl,ht⟩,rfl⟩;have Ht:=zE ht;clear ht) | fail);go_wp2;go_ret;exact⟨⟨_,rfl,Ht.out.trans ⟨fun h=>bA.out.1 ⟨cA.out,h⟩,fun h=>h.1⟩⟩,kA⟩
theorem zMU(v:Value)(n lo hi:Nat)(f g:Nat->Int)(w:World)(h1:zU w lo hi v n f g)(hn:n<=200) :
  Calls Tryz.prog 86 #[v] w fun e w'=>∃v',e = .returned v'/\zw w' w.heap.size v' (kidsUp f g n)/\Below w.heap.size w w':=by
 have Hp:=zE h1;obtain⟨m1,a,c,rfl,mc,_⟩:=id h1;clear h1;unfold maxLen at m1;obtain⟨i0,mA,iA⟩:=Option.map_eq_some_iff.1 zA1;simp only[Prod.mk.injEq]at iA;have HI:=zE (And.intro mA iA);clear mA iA;have ha:=zC w (.cells #[] 61);have L1:=zE (show zw (w.alloc (.cells #[] 61)) w.heap.size (.slice (some ⟨w.heap.size,0,none⟩) 0 0) [] from World.ownsRow_lit (e:=61) (size:=2) w #[] 0 (Nat.le_refl _) (by unfold maxLen;omega) rfl);go_enter Tryz.func86,Tryz.ntmps86;go_wp2
 go_loopw [3,4] (fun v i wr=>∃(k:Nat) (sa:Option Addr) (sc:Nat),k<=n/\i = .int .i64 k/\v = .slice sa (kidsUp f g k).length sc/\zw wr w.heap.size v (kidsUp f g k)/\Below w.heap.size w wr) (fun _ i _=>n - (intOf i).toNat)
 case atStart=>exact⟨0,_,_,Nat.zero_le _,rfl,rfl,L1.out,ha⟩
 case round=>
  obtain⟨k,sa,sc,hk,rfl,rfl,hr,hb⟩:=hrel;have Hr:=zE hr;have tA:=zBB f g k;clear hr L1 ha;by_cases pA:k<n
  ·have vA:(k:Int)<(n:Int):=(by omega);obtain⟨b,off,rfl,q0,q1⟩:=(Hp.out.zRX hb).cellsT pA;go_wp2_with fail;refine(zAD (f k) (g k) wr).mono ?_;rintro e W ⟨⟨t,rfl,ht⟩,dA⟩;have fA:=zA hb dA;have gA:=zE (Hr.out.zRX dA);have bB:=(dA.cell (zD q0)).trans q0;have dB:=(dA.cell (zD q1)).trans q1;have cB:=fA.size;clear q0 q1 hb dA Hr;by_cases bA:Nil (f k) (g k)
   ·have kA:=zE bA;obtain rfl:t=true:=ht.2 bA;clear ht bA;have eA:=zE (show kidsUp f g (k+1)=kidsUp f g k by rw[kidsUp,show one (f k) (g k) = [] from if_pos kA.out,List.append_nil]);go_wp2;go_roundw
    case rel=>exact⟨k+1,sa,sc,by omega,by go_num,by rw[eA.out],by rw[eA.out];exact gA.out,fA⟩
    case measure=>simp[intOf];omega
   ·have kA:=zE bA;obtain rfl:t=false:=zQ ht bA;clear ht bA;have eA:=zE (show kidsUp f g (k+1)=kidsUp f g k ++ [(f k,g k)] by rw[kidsUp,show one (f k) (g k) = [(f k,g k)] from if_neg kA.out]);have jA:=zC W (.cells #[.int .i64 (f k),.int .i64 (g k)] 61);have nA:=zE (gA.out.zRX jA);have oA:=zA fA jA;have eB:(W.alloc (.cells #[.int .i64 (f k),.int .i64 (g k)] 61)).heap.size=W.heap.size+1:=World.size_alloc _ _;have sA:=zE (World.news_of_block (heap_alloc_last W (.cells #[.int .i64 (f k),.int .i64 (g k)] 61)));clear jA gA fA;go_wp2_with (first
     | (at_builtin;refine wpList_append_lies _ rfl _ _ 62 rfl w.heap.size 61 i0 (.agg #[.int .i64 0,.int .i64 0]) 2 16 (by kernel_rfl) HI.out.1 HI.out.2.1 HI.out.2.2.1 HI.out.2.2.2 rfl (by decide) (.slice sa (kidsUp f g k).length sc) (kidsUp f g k).length (pcl (kidsUp f g k)) rfl nA.out ⟨W.heap.size,0,none⟩ 1 1 [.int .i64 (f k),.int .i64 (g k)] rfl rfl sA.out (by simp[Value.oneCell']) (by decide) (by unfold maxLen;omega) (by omega) (by omega) _ rfl ?_;intro g4 lA w4 cA aA rA aB)
     | go_in)
    go_roundw
    case rel=>exact⟨k+1,some ⟨g4,0,none⟩,lA,by omega,by go_num,by rw[eA.out,List.length_append];rfl,by rw[eA.out];exact zw.next cA,oA.grown aA oA.size (fun q hq=>(nA.out.lt hq).1)⟩
    case measure=>simp[intOf];omega
  ·obtain rfl:k=n:=(by omega);go_wp2;go_ret;exact⟨_,rfl,Hr.out,hb⟩
theorem zPh{p:zI}{xs xb:Int}{n:Nat}{b:Int}{o:zDr}(h:(zBp p xs xb n b o).code≠0):zBp p xs xb n b o=zAU (zBp p xs xb n b o).code:=by
 unfold zBp at h ⊢;split
 ·rfl
 ·split
  ·rfl
  ·rename_i h1 h2
   rw[if_neg h1,if_neg h2]at h;exact absurd rfl h
theorem zQs{p:zI}{xs xb:Int}{n:Nat}{b:Int}{o:zDr}(h:(zBp p xs xb n b o).code=0):zBp p xs xb n b o=⟨(layS p xs xb n b o 2).zRd,(layS p xs xb n b o 2).ps,(layS p xs xb n b o 2).pb,yg p xs xb n 3,0⟩:=by
 unfold zBp at h ⊢;split
 ·rename_i h1
  rw[if_pos h1]at h;exact absurd h h1
 ·split
  ·rename_i h1 h2
   rw[if_neg h1,if_pos h2]at h;exact absurd h h2
  ·rfl
theorem zAu{w wr:World}{R:Nat}{c:Int}(aA:w.heap.size<=R)(hb:Below w.heap.size w wr) :
  zHa (zAU c) w (.returned (.agg #[.slice none 0 0,.slice none 0 0,.int .i64 0,.int .i64 0,.slice none 0 0,.int .i64 c])) (put6 wr R (.slice none 0 0) (.slice none 0 0) (.int .i64 0) (.int .i64 0) (.slice none 0 0) (.int .i64 c)):=by
 have t:=zF.put6 wr R (.slice none 0 0) (.slice none 0 0) (.int .i64 0) (.int .i64 0) (.slice none 0 0) (.int .i64 c);exact⟨_,_,_,w.heap.size,w.heap.size,rfl,Nat.le_refl _,by have:=hb.size;have:=t.size;omega,zHl,zw.nil _ _,fun k hk=>by simp[Value.ownBlock]at hk,hb.trans (t.zRX (by have:=hb.size;omega) (fun k hk=>by omega))⟩
theorem zPD(w:World)(a0 a1 x0 x1:Value)(t1 t2 t3:TypeId) :
  zc (((w.alloc (.cells #[a0,a1] t1)).alloc (.cells #[x0,x1] t2)).alloc (.cells #[.slice none 0 0,.slice none 0 0,.int .i64 0,.int .i64 0,.slice none 0 0,.int .i64 0] t3)) w.heap.size a0 a1/\
  zc (((w.alloc (.cells #[a0,a1] t1)).alloc (.cells #[x0,x1] t2)).alloc (.cells #[.slice none 0 0,.slice none 0 0,.int .i64 0,.int .i64 0,.slice none 0 0,.int .i64 0] t3)) (w.heap.size+1) x0 x1/\
  zi (((w.alloc (.cells #[a0,a1] t1)).alloc (.cells #[x0,x1] t2)).alloc (.cells #[.slice none 0 0,.slice none 0 0,.int .i64 0,.int .i64 0,.slice none 0 0,.int .i64 0] t3)) (w.heap.size+1+1) (.slice none 0 0) (.slice none 0 0) (.int .i64 0) (.int .i64 0) (.slice none 0 0) (.int .i64 0)/\
  Below w.heap.size w (((w.alloc (.cells #[a0,a1] t1)).alloc (.cells #[x0,x1] t2)).alloc (.cells #[.slice none 0 0,.slice none 0 0,.int .i64 0,.int .i64 0,.slice none 0 0,.int .i64 0] t3))/\
  (((w.alloc (.cells #[a0,a1] t1)).alloc (.cells #[x0,x1] t2)).alloc (.cells #[.slice none 0 0,.slice none 0 0,.int .i64 0,.int .i64 0,.slice none 0 0,.int .i64 0] t3)).heap.size=w.heap.size+3:=by
 refine⟨((zc.zRZ w a0 a1 t1).zRX (zC _ _)).zRX (zC _ _),?_,?_,zA (zA (zC _ _) (zC _ _)) (zC _ _),by simp⟩
 ·have:=(zc.zRZ (w.alloc (.cells #[a0,a1] t1)) x0 x1 t2).zRX (zC _ (.cells #[.slice none 0 0,.slice none 0 0,.int .i64 0,.int .i64 0,.slice none 0 0,.int .i64 0] t3));rw[World.size_alloc]at this;exact this
 ·have:=zi.zRZ ((w.alloc (.cells #[a0,a1] t1)).alloc (.cells #[x0,x1] t2)) (.slice none 0 0) (.slice none 0 0) (.int .i64 0) (.int .i64 0) (.slice none 0 0) (.int .i64 0) t3;rw[World.size_alloc,World.size_alloc]at this;exact this
def qj(b:Int)(d:ByteArray):zL:={zRi:=b,kn:=0,ks:=fun _=>0,kb:=fun _=>0,data:=d}
open Classical in
noncomputable def qo(p:zI)(xs xb zRj:Int)(d:ByteArray)(b:Int):zCO:=
 if 8000<d.size then zAU 2 else if qp p xs xb/\yB xb b then(if zCJ zRj/\d.size=16 then(if (qw p (qj b d)).code=0 then zBp p xs xb zRj.toNat b ⟨(qw p (qj b d)).zRd,(qw p (qj b d)).ps,(qw p (qj b d)).pb,0⟩else zAU (qw p (qj b d)).code)else zAU 8)else zAU 1
theorem zFc{p:zI}{xs xb zRj b:Int}{d:ByteArray}(h:8000<d.size):qo p xs xb zRj d b=zAU 2:=if_pos h
theorem zC0{p:zI}{xs xb zRj b:Int}{d:ByteArray}(h0:¬8000<d.size)(h:¬(qp p xs xb/\yB xb b)):qo p xs xb zRj d b=zAU 1:=(if_neg h0).trans (if_neg h)
theorem zCC{p:zI}{xs xb zRj b:Int}{d:ByteArray}(h0:¬8000<d.size)(h:qp p xs xb/\yB xb b)(h2:¬(zCJ zRj/\d.size=16)):qo p xs xb zRj d b=zAU 8:=((if_neg h0).trans (if_pos h)).trans (if_neg h2)
theorem zIj{p:zI}{xs xb zRj b:Int}{d:ByteArray}(h0:¬8000<d.size)(h:qp p xs xb/\yB xb b)(h2:zCJ zRj/\d.size=16)(h3:(qw p (qj b d)).code≠0):qo p xs xb zRj d b=zAU (qw p (qj b d)).code:=(((if_neg h0).trans (if_pos h)).trans (if_pos h2)).trans (if_neg h3)
theorem zJG{p:zI}{xs xb zRj b:Int}{d:ByteArray}(h0:¬8000<d.size)(h:qp p xs xb/\yB xb b)(h2:zCJ zRj/\d.size=16)(h3:(qw p (qj b d)).code=0):qo p xs xb zRj d b=zBp p xs xb zRj.toNat b ⟨(qw p (qj b d)).zRd,(qw p (qj b d)).ps,(qw p (qj b d)).pb,0⟩:=(((if_neg h0).trans (if_pos h)).trans (if_pos h2)).trans (if_pos h3)
theorem zFn(v0 v1:Value)(lo hi:Nat)(p:zI)(xs xb zRj b:Int)(d:ByteArray)(w:World)(h1:zu w lo hi v0 v1 p) :
  Calls Tryz.prog 36 #[.agg #[v0,v1],.agg #[.int .i64 xs,.int .i64 xb],.int .i64 zRj,.string d,.int .i64 b] w (zHa (qo p xs xb zRj d b) w):=by
 have Hp:=zE h1;obtain⟨a,c,a',c',rfl,rfl⟩:=h1.form;clear h1;have cD:=zPD w (.slice a p.n c) (.slice a' p.hn c') (.int .i64 xs) (.int .i64 xb) 33 61 64;go_enter Tryz.func36,Tryz.ntmps36;go_upto_region 1 with fail;generalize ((w.alloc (.cells #[.slice a p.n c,.slice a' p.hn c'] 33)).alloc (.cells #[.int .i64 xs,.int .i64 xb] 61)).alloc (.cells #[.slice none 0 0,.slice none 0 0,.int .i64 0,.int .i64 0,.slice none 0 0,.int .i64 0] 64)=W at cD ⊢;obtain⟨hB,hX,hR,kA,hz⟩:=cD;by_cases tC:8000<d.size
 ·have tA:=zE tC;have gD:(8000:Int)<(d.size:Int):=(by omega);have HR:=zE hR;obtain⟨⟨r0,r1⟩,⟨r2,r3⟩,⟨r4,r5⟩,⟨r6,r7⟩,⟨r8,r9⟩,⟨oA,nA⟩⟩:=HR.out
  try go_wp2
  have bA:=HR.out.put (.slice none 0 0) (.slice none 0 0) (.int .i64 0) (.int .i64 0) (.slice none 0 0) (.int .i64 2);have fA:=zAu (R:=w.heap.size+1+1) (c:=2) (by omega) kA;rw[zFc tA.out];exact bodyPost_ret (v:=.agg #[.slice none 0 0,.slice none 0 0,.int .i64 0,.int .i64 0,.slice none 0 0,.int .i64 2]) (by simp[results,Tryz.results36,go_sem,bA.1.1,bA.2.1.1,bA.2.2.1.1,bA.2.2.2.1.1,bA.2.2.2.2.1.1,bA.2.2.2.2.2.1]) rfl fA
 ·have tA:=zE tC;have gD:¬(8000:Int)<(d.size:Int):=(by omega);clear tC;obtain⟨⟨x0,x1⟩,⟨x2,x3⟩⟩:=id hB;obtain⟨⟨y0,y1⟩,⟨y2,y3⟩⟩:=id hX;go_wp2_with fail;refine(zGO _ _ lo hi p xs xb W (Hp.out.zRX kA)).mono ?_;rintro e w1 ⟨⟨t,rfl,ht⟩,mB⟩;have dD:=zE (hB.zRX mB);have vC:=zE (hX.zRX mB);have gC:=zE (hR.zRX mB);have sC:=zA kA mB;have sD:w.heap.size+3<=w1.heap.size:=(by have:=mB.size;omega);clear hB hX hR kA mB hz x0 x1 x2 x3 y0 y1 y2 y3;by_cases kB:qp p xs xb
  ·have lB:=zE kB;obtain rfl:t=true:=ht.2 kB;clear ht kB;obtain⟨⟨y0,y1⟩,⟨y2,y3⟩⟩:=vC.out;go_wp2_with fail;refine(zK3 xs xb b w1).mono ?_;rintro e w2 ⟨⟨t,rfl,ht⟩,nB⟩;have nC:=zE (dD.out.zRX nB);have bD:=zE (vC.out.zRX nB);have mA:=zE (gC.out.zRX nB);have iB:=zA sC nB;have aE:w.heap.size+3<=w2.heap.size:=(by have:=nB.size;omega);clear nB sC dD vC gC sD y0 y1 y2 y3;by_cases jB:yB xb b
   ·have aC:=zE (And.intro lB.out jB);obtain rfl:t=true:=ht.2 jB;clear ht jB;obtain⟨⟨r0,r1⟩,⟨r2,r3⟩,⟨r4,r5⟩,⟨r6,r7⟩,⟨r8,r9⟩,⟨oA,nA⟩⟩:=mA.out;by_cases hN:zCJ zRj
    ·have oB:=zE hN;obtain⟨n,rfl⟩:=Int.eq_ofNat_of_zero_le hN.1;have pA:n<64:=(by have:=hN.2;omega);clear hN;by_cases iA:d.size=16
     ·have cC:=zE (And.intro oB.out iA);have iD:((d.size:Int) != 16)=false:=(by simp;omega);have fB:=zE iA;clear iA r0 r1 r2 r3 r4 r5 r6 r7 r8 r9 oA nA;obtain⟨⟨x0,x1⟩,⟨x2,x3⟩⟩:=nC.out;go_wp2_with (first | (go_at_call 99;refine(zCn _ _).mono ?_;rintro e w9 ⟨⟨t2,rfl,vA⟩,rfl⟩;obtain rfl:t2=true:=vA.2 oB.out;clear vA) | fail);go_wp2_with fail;have HS:Hid (qG w9 0 0 (.int .i64 (qj b d).zRi) (.slice none 0 0) (.string (qj b d).data) (qj b d)):=⟨rfl,⟨Nat.zero_le _,none,0,rfl,Nat.le_refl _,fun h=>absurd h (Nat.lt_irrefl _)⟩,rfl,by show d.size<=maxLen;rw[fB.out];unfold maxLen;omega⟩;have rD:=zEQ lB.out.1;refine(zDT _ _ _ lo hi 0 0 p (qj b d) w9 (Hp.out.zRX iB) HS.out (by show qC p+(0+d.size)<=_;rw[fB.out];omega)).mono ?_;rintro e w3 ⟨t0,t1,rfl,bC,pC⟩;have kC:Hid ((qw p (qj b d)).code≠0->qo p xs xb (n:Int) d b=zAU (qw p (qj b d)).code):=fun h=>zIj tA.out aC.out cC.out h
      have lC:Hid ((qw p (qj b d)).code=0->qo p xs xb (n:Int) d b=zBp p xs xb n b ⟨(qw p (qj b d)).zRd,(qw p (qj b d)).ps,(qw p (qj b d)).pb,0⟩):=fun h=>zJG tA.out aC.out cC.out h
      have oC:Hid (qC (qw p (qj b d)).zRd+16<=1048576):=by
       have h1:=zFb p (qj b d);have h2:zAO (qj b d)=16:=(by show 0+d.size=16;rw[fB.out]);show _<=_;omega
      generalize qw p (qj b d)=od at bC kC lC oC ⊢;obtain⟨ta,tc,bB,cB,rfl,rfl⟩:=bC.form;have dB:=zC w3 (.cells #[.slice ta od.zRd.n tc,.slice bB od.zRd.hn cB,.int .i64 od.ps,.int .i64 od.pb,.int .i64 od.code] 151);have sB:=zA pC dB;have dC:=zE (bC.zRX dB);have lA:=zE (zDk.zRZ w3 (.slice ta od.zRd.n tc) (.slice bB od.zRd.hn cB) (.int .i64 od.ps) (.int .i64 od.pb) (.int .i64 od.code) 151);have rA:=zE (nC.out.zRX sB);have sA:=zE (bD.out.zRX sB);have rB:=zE (mA.out.zRX sB);have aB:=zA iB sB;have mD:=pC.size;have aD:w3.heap.size<(w3.alloc (.cells #[.slice ta od.zRd.n tc,.slice bB od.zRd.hn cB,.int .i64 od.ps,.int .i64 od.pb,.int .i64 od.code] 151)).heap.size:=(by rw[World.size_alloc];omega);clear bC pC dB sB x0 x1 x2 x3 nC bD mA iB HS rD;go_upto_region 8 with fail;generalize w3.alloc (.cells #[.slice ta od.zRd.n tc,.slice bB od.zRd.hn cB,.int .i64 od.ps,.int .i64 od.pb,.int .i64 od.code] 151)=wD at dC lA rA sA rB aB aD ⊢;generalize w3.heap.size=T at dC lA mD aD ⊢;obtain⟨⟨t0,t1⟩,⟨t2,t3⟩,⟨t4,t5⟩,⟨t6,t7⟩,⟨t8,t9⟩⟩:=lA.out;by_cases hc:od.code=0
      ·have jD:(od.code != 0)=false:=(by simp[hc]);have eC:=zE (lC.out hc);clear hc kC lC;obtain⟨⟨x0,x1⟩,⟨x2,x3⟩⟩:=rA.out;obtain⟨⟨y0,y1⟩,⟨y2,y3⟩⟩:=sA.out;go_upto_region 10 with fail;by_cases fC:(zBp p xs xb n b ⟨od.zRd,od.ps,od.pb,0⟩).code=0
       ·have HC:=zE fC;clear fC;refine wp_region_held_drew (S:=(fun w'=>w'.cell? ⟨T,0,none⟩=some (.slice ta od.zRd.n tc)/\w'.cell? ⟨T,1,none⟩=some (.slice bB od.zRd.hn cB)/\w'.cell? ⟨T,2,none⟩=some (.int .i64 od.ps)/\w'.cell? ⟨T,3,none⟩=some (.int .i64 od.pb)/\w'.cell? ⟨w.heap.size,0,none⟩=some (.slice a p.n c)/\w'.cell? ⟨w.heap.size+1,0,none⟩=some (.int .i64 xs)/\w'.cell? ⟨w.heap.size+1,1,none⟩=some (.int .i64 xb))) (by kernel_rfl) ?_ (fun hHeld=>?_)
        ·(try dsimp only)
         go_keep
        refine wpAnyH_take (i:=0) (oi:=({dst:=some 47,op:=Op.fieldAddr 151 (Operand.tmp 11) 0,type:=0,pos:= "l02_tree.go:66",after:=#[],guard:=none}:Oper)) (v:=?_) rfl (by kernel_rfl) (by kernel_rfl) (by kernel_rfl) (fun _ _ _ h=>h) (Or.inl ⟨by rfl,?_⟩) (by assumption) ?_;rotate_left
        ·(intro w cA;(try dsimp only at cA);go_simp;try with_reducible rfl)
        try simp only[Act.put,List.setIfInBounds_toArray,List.set_cons_zero,List.set_cons_succ]
        refine wpAnyH_take (i:=1) (oi:=({dst:=some 48,op:=Op.load 33 (Operand.tmp 47),type:=33,pos:= "l02_tree.go:66",after:=#[{on:=0,ground:=Ground.data}],guard:=none}:Oper)) (v:=?_) rfl (by kernel_rfl) (by kernel_rfl) (by kernel_rfl) (fun _ _ _ h=>h) (Or.inl ⟨by rfl,?_⟩) (by assumption) ?_;rotate_left
        ·(intro w cA;(try dsimp only at cA);go_simp;try with_reducible rfl)
        try simp only[Act.put,List.setIfInBounds_toArray,List.set_cons_zero,List.set_cons_succ]
        refine wpAnyH_take (i:=2) (oi:=({dst:=some 49,op:=Op.fieldAddr 33 (Operand.tmp 5) 0,type:=0,pos:= "l02_tree.go:66",after:=#[],guard:=none}:Oper)) (v:=?_) rfl (by kernel_rfl) (by kernel_rfl) (by kernel_rfl) (fun _ _ _ h=>h) (Or.inl ⟨by rfl,?_⟩) (by assumption) ?_;rotate_left
        ·(intro w cA;(try dsimp only at cA);go_simp;try with_reducible rfl)
        try simp only[Act.put,List.setIfInBounds_toArray,List.set_cons_zero,List.set_cons_succ]
        refine wpAnyH_take (i:=3) (oi:=({dst:=some 50,op:=Op.load 31 (Operand.tmp 49),type:=31,pos:= "l02_tree.go:66",after:=#[{on:=2,ground:=Ground.data}],guard:=none}:Oper)) (v:=?_) rfl (by kernel_rfl) (by kernel_rfl) (by kernel_rfl) (fun _ _ _ h=>h) (Or.inl ⟨by rfl,?_⟩) (by assumption) ?_;rotate_left
        ·(intro w cA;(try dsimp only at cA);go_simp;try with_reducible rfl)
        try simp only[Act.put,List.setIfInBounds_toArray,List.set_cons_zero,List.set_cons_succ]
        refine wpAnyH_take (i:=4) (oi:=({dst:=some 51,op:=Op.load 61 (Operand.tmp 6),type:=61,pos:= "l02_tree.go:66",after:=#[],guard:=none}:Oper)) (v:=?_) rfl (by kernel_rfl) (by kernel_rfl) (by kernel_rfl) (fun _ _ _ h=>h) (Or.inl ⟨by rfl,?_⟩) (by assumption) ?_;rotate_left
        ·(intro w cA;(try dsimp only at cA);go_simp;try with_reducible rfl)
        try simp only[Act.put,List.setIfInBounds_toArray,List.set_cons_zero,List.set_cons_succ]
        refine wpAnyH_take (i:=5) (oi:=({dst:=some 52,op:=Op.move (Operand.tmp 2),type:=2,pos:= "l02_tree.go:66",after:=#[],guard:=none}:Oper)) (v:=?_) rfl (by kernel_rfl) (by kernel_rfl) (by kernel_rfl) (fun _ _ _ h=>h) (Or.inl ⟨by rfl,?_⟩) (by assumption) ?_;rotate_left
        ·(intro w cA;(try dsimp only at cA);go_simp;try with_reducible rfl)
        try simp only[Act.put,List.setIfInBounds_toArray,List.set_cons_zero,List.set_cons_succ]
        refine wpAnyH_take (i:=7) (oi:=({dst:=some 54,op:=Op.fieldAddr 151 (Operand.tmp 11) 1,type:=0,pos:= "l02_tree.go:66",after:=#[],guard:=none}:Oper)) (v:=?_) rfl (by kernel_rfl) (by kernel_rfl) (by kernel_rfl) (fun _ _ _ h=>h) (Or.inl ⟨by rfl,?_⟩) (by assumption) ?_;rotate_left
        ·(intro w cA;(try dsimp only at cA);go_simp;try with_reducible rfl)
        try simp only[Act.put,List.setIfInBounds_toArray,List.set_cons_zero,List.set_cons_succ]
        refine wpAnyH_take (i:=8) (oi:=({dst:=some 55,op:=Op.load 61 (Operand.tmp 54),type:=61,pos:= "l02_tree.go:66",after:=#[{on:=7,ground:=Ground.data}],guard:=none}:Oper)) (v:=?_) rfl (by kernel_rfl) (by kernel_rfl) (by kernel_rfl) (fun _ _ _ h=>h) (Or.inl ⟨by rfl,?_⟩) (by assumption) ?_;rotate_left
        ·(intro w cA;(try dsimp only at cA);go_simp;try with_reducible rfl)
        try simp only[Act.put,List.setIfInBounds_toArray,List.set_cons_zero,List.set_cons_succ]
        refine wpAnyH_take (i:=9) (oi:=({dst:=some 56,op:=Op.move (Operand.tmp 4),type:=2,pos:= "l02_tree.go:66",after:=#[],guard:=none}:Oper)) (v:=?_) rfl (by kernel_rfl) (by kernel_rfl) (by kernel_rfl) (fun _ _ _ h=>h) (Or.inl ⟨by rfl,?_⟩) (by assumption) ?_;rotate_left
        ·(intro w cA;(try dsimp only at cA);go_simp;try with_reducible rfl)
        try simp only[Act.put,List.setIfInBounds_toArray,List.set_cons_zero,List.set_cons_succ]
        refine wpAnyH_ready (rs:=[6]) (by kernel_rfl) (by simp) ?_;refine AllReadyH.cons (o:=({dst:=some 53,op:=Op.call {callee:=Callee.value (Operand.func 102),args:=#[Operand.tmp 50,Operand.tmp 51,Operand.tmp 52],argTypes:=#[31,61,2]},type:=159,pos:= "l02_tree.go:66",after:=#[{on:=3,ground:=Ground.data},{on:=4,ground:=Ground.data},{on:=5,ground:=Ground.data}],guard:=none}:Oper)) rfl (fun K hK=>?_) AllReadyH.nil;go_simp;go_at_call 102;refine(zJK _ lo hi p xs xb n _ ?_ lB.out pA).mono ?_
        ·first | exact(Hp.out.zRX aB).1 | exact(Hp.out.zRX aB.drew).1
        rintro e wa ⟨o,rfl,eB,kA⟩;obtain⟨iC,jC,rfl,_⟩:=zY eB;have jA:=zE eB;clear eB;have gA:Below wD.heap.size wD wa:=(by first | exact kA | exact zK kA);obtain⟨⟨k0,_⟩,⟨k1,_⟩,⟨k2,_⟩,⟨k3,_⟩,_⟩:=lA.out.zRX gA;obtain⟨⟨k4,_⟩,_⟩:=rA.out.zRX gA;obtain⟨⟨k5,_⟩,⟨k6,_⟩⟩:=sA.out.zRX gA
        (try go_wp2_with fail)
        refine hK.out _ _ ?_ (fun aA=>?_)
        ·(try dsimp only)
         go_keep
        clear hK K hHeld;have hHeld:=aA;clear aA
        try simp only[Act.put,List.setIfInBounds_toArray,List.set_cons_zero,List.set_cons_succ]
        refine wpAnyH_ready (rs:=[10]) (by kernel_rfl) (by simp) ?_;refine AllReadyH.cons (o:=({dst:=some 57,op:=Op.call {callee:=Callee.value (Operand.func 101),args:=#[Operand.tmp 48,Operand.tmp 53,Operand.tmp 55,Operand.tmp 56],argTypes:=#[33,159,61,2]},type:=64,pos:= "l02_tree.go:66",after:=#[{on:=1,ground:=Ground.data},{on:=6,ground:=Ground.data},{on:=8,ground:=Ground.data},{on:=9,ground:=Ground.data},{on:=6,ground:=Ground.chain}],guard:=none}:Oper)) rfl (fun K hK=>?_) AllReadyH.nil;go_simp;go_at_call 101;refine(zHD _ _ _ _ p od.zRd xs xb od.ps od.pb b n _ wa (dC.out.zRX gA).at pA oC.out (jA.out.mono (Nat.zero_le _))).mono ?_;rintro e wb (⟨vB,tB,gB⟩ | ⟨vB,s0,s1,tB,mC,gB⟩)
        ·exact absurd HC.out vB
        subst tB;have dA:=zA gA gB;obtain⟨a5,c5,a6,c6,rfl,rfl⟩:=mC.form;obtain⟨⟨l0,_⟩,⟨l1,_⟩,⟨l2,_⟩,⟨l3,_⟩,_⟩:=lA.out.zRX dA;obtain⟨⟨l4,_⟩,_⟩:=rA.out.zRX dA;obtain⟨⟨l5,_⟩,⟨l6,_⟩⟩:=sA.out.zRX dA;have pB:=zE (rB.out.zRX dA);obtain⟨⟨r0,r1⟩,⟨r2,r3⟩,⟨r4,r5⟩,⟨r6,r7⟩,⟨r8,r9⟩,⟨oA,nA⟩⟩:=pB.out;have eA:Hid (∀(u0 u1 u2 u3 u4 u5:Value),(fun (w':World)=>w'.cell? ⟨T,0,none⟩=some (.slice ta od.zRd.n tc)/\w'.cell? ⟨T,1,none⟩=some (.slice bB od.zRd.hn cB)/\w'.cell? ⟨T,2,none⟩=some (.int .i64 od.ps)/\w'.cell? ⟨T,3,none⟩=some (.int .i64 od.pb)/\w'.cell? ⟨w.heap.size,0,none⟩=some (.slice a p.n c)/\w'.cell? ⟨w.heap.size+1,0,none⟩=some (.int .i64 xs)/\w'.cell? ⟨w.heap.size+1,1,none⟩=some (.int .i64 xb)) (put6 wb (w.heap.size+1+1) u0 u1 u2 u3 u4 u5)):=by
         intro u0 u1 u2 u3 u4 u5;have t:=zF.put6 wb (w.heap.size+1+1) u0 u1 u2 u3 u4 u5;have g1:=(lA.out.zRX dA).zRf t (by omega);have g2:=(rA.out.zRX dA).zRf t (by omega);have g3:=(sA.out.zRX dA).zRf t (by omega);exact⟨g1.1.1,g1.2.1.1,g1.2.2.1.1,g1.2.2.2.1.1,g2.1.1,g3.1.1,g3.2.1⟩
        (try go_wp2_with fail)
        refine hK.out _ _ ?_ (fun aA=>?_)
        ·(try dsimp only)
         go_keep
        clear hK K hHeld;have hHeld:=aA;clear aA
        try simp only[Act.put,List.setIfInBounds_toArray,List.set_cons_zero,List.set_cons_succ]
        refine wpAnyH_ready (rs:=[11]) (by kernel_rfl) (by simp) ?_;refine AllReadyH.cons (o:=({dst:=none,op:=Op.store 64 (Operand.tmp 10) (Operand.tmp 57),type:=0,pos:= "l02_tree.go:66",after:=#[{on:=10,ground:=Ground.data},{on:=10,ground:=Ground.chain},{on:=0,ground:=Ground.phase},{on:=1,ground:=Ground.phase},{on:=2,ground:=Ground.phase},{on:=3,ground:=Ground.phase},{on:=4,ground:=Ground.phase},{on:=5,ground:=Ground.phase},{on:=6,ground:=Ground.phase},{on:=7,ground:=Ground.phase},{on:=8,ground:=Ground.phase},{on:=9,ground:=Ground.phase},{on:=10,ground:=Ground.phase}],guard:=none}:Oper)) rfl (fun K hK=>?_) AllReadyH.nil;go_simp
        (try go_wp2_with fail)
        refine hK.out _ _ ?_ (fun aA=>?_)
        ·(try dsimp only)
         exact eA.out _ _ _ _ _ _
        clear hK K hHeld;have hHeld:=aA;clear aA
        try simp only[Act.put,List.setIfInBounds_toArray,List.set_cons_zero,List.set_cons_succ]
        refine wpAnyH_done (by kernel_rfl) ?_ _;have bA:=pB.out.put (.slice a5 (layS p xs xb n b ⟨od.zRd,od.ps,od.pb,0⟩ 2).zRd.n c5) (.slice a6 (layS p xs xb n b ⟨od.zRd,od.ps,od.pb,0⟩ 2).zRd.hn c6) (.int .i64 (layS p xs xb n b ⟨od.zRd,od.ps,od.pb,0⟩ 2).ps) (.int .i64 (layS p xs xb n b ⟨od.zRd,od.ps,od.pb,0⟩ 2).pb) (.slice iC (yg p xs xb n 3).length jC) (.int .i64 0);have rC:=zF.put6 wb (w.heap.size+1+1) (.slice a5 (layS p xs xb n b ⟨od.zRd,od.ps,od.pb,0⟩ 2).zRd.n c5) (.slice a6 (layS p xs xb n b ⟨od.zRd,od.ps,od.pb,0⟩ 2).zRd.hn c6) (.int .i64 (layS p xs xb n b ⟨od.zRd,od.ps,od.pb,0⟩ 2).ps) (.int .i64 (layS p xs xb n b ⟨od.zRd,od.ps,od.pb,0⟩ 2).pb) (.slice iC (yg p xs xb n 3).length jC) (.int .i64 0);have eD:=zA aB dA;have lD:=zE mC;have kD:Hid (w.heap.size+3<=wD.heap.size):=(by show _<=_;omega);have pD:=zE gA.size;have nD:=zE gB;clear hHeld eA l0 l1 l2 l3 l4 l5 l6 k0 k1 k2 k3 k4 k5 k6 mC gB;go_wp2;have hE:=eC.out.trans (zQs HC.out);rw[hE];have tD:=kD.out;have vD:=pD.out;exact bodyPost_ret (v:=.agg #[.slice a5 (layS p xs xb n b ⟨od.zRd,od.ps,od.pb,0⟩ 2).zRd.n c5,.slice a6 (layS p xs xb n b ⟨od.zRd,od.ps,od.pb,0⟩ 2).zRd.hn c6,.int .i64 (layS p xs xb n b ⟨od.zRd,od.ps,od.pb,0⟩ 2).ps,.int .i64 (layS p xs xb n b ⟨od.zRd,od.ps,od.pb,0⟩ 2).pb,.slice iC (yg p xs xb n 3).length jC,.int .i64 0]) (by simp[results,Tryz.results36,go_sem,bA.1.1,bA.2.1.1,bA.2.2.1.1,bA.2.2.2.1.1,bA.2.2.2.2.1.1,bA.2.2.2.2.2.1]) rfl ⟨_,_,_,wa.heap.size,wb.heap.size,rfl,by omega,rC.size,lD.out.zRf rC (by intro k hk;omega),(((((((jA.out.zRX nD.out).put (show w.heap.size+1+1<wD.heap.size by omega) _).put (show w.heap.size+1+1<wD.heap.size by omega) _).put (show w.heap.size+1+1<wD.heap.size by omega) _).put (show w.heap.size+1+1<wD.heap.size by omega) _).put (show w.heap.size+1+1<wD.heap.size by omega) _).put (show w.heap.size+1+1<wD.heap.size by omega) _).mono (show w.heap.size<=wD.heap.size by omega),fun k hk=>Or.inl (jA.out.lt hk).2,eD.trans (rC.zRX (B:=w.heap.size) eD.size (by intro k hk;omega))⟩
       ·have HC:=zE fC;clear fC;refine wp_region_held_drew (S:=(fun w'=>w'.cell? ⟨T,0,none⟩=some (.slice ta od.zRd.n tc)/\w'.cell? ⟨T,1,none⟩=some (.slice bB od.zRd.hn cB)/\w'.cell? ⟨T,2,none⟩=some (.int .i64 od.ps)/\w'.cell? ⟨T,3,none⟩=some (.int .i64 od.pb)/\w'.cell? ⟨w.heap.size,0,none⟩=some (.slice a p.n c)/\w'.cell? ⟨w.heap.size+1,0,none⟩=some (.int .i64 xs)/\w'.cell? ⟨w.heap.size+1,1,none⟩=some (.int .i64 xb))) (by kernel_rfl) ?_ (fun hHeld=>?_)
        ·(try dsimp only)
         go_keep
        refine wpAnyH_take (i:=0) (oi:=({dst:=some 47,op:=Op.fieldAddr 151 (Operand.tmp 11) 0,type:=0,pos:= "l02_tree.go:66",after:=#[],guard:=none}:Oper)) (v:=?_) rfl (by kernel_rfl) (by kernel_rfl) (by kernel_rfl) (fun _ _ _ h=>h) (Or.inl ⟨by rfl,?_⟩) (by assumption) ?_;rotate_left
        ·(intro w cA;(try dsimp only at cA);go_simp;try with_reducible rfl)
        try simp only[Act.put,List.setIfInBounds_toArray,List.set_cons_zero,List.set_cons_succ]
        refine wpAnyH_take (i:=1) (oi:=({dst:=some 48,op:=Op.load 33 (Operand.tmp 47),type:=33,pos:= "l02_tree.go:66",after:=#[{on:=0,ground:=Ground.data}],guard:=none}:Oper)) (v:=?_) rfl (by kernel_rfl) (by kernel_rfl) (by kernel_rfl) (fun _ _ _ h=>h) (Or.inl ⟨by rfl,?_⟩) (by assumption) ?_;rotate_left
        ·(intro w cA;(try dsimp only at cA);go_simp;try with_reducible rfl)
        try simp only[Act.put,List.setIfInBounds_toArray,List.set_cons_zero,List.set_cons_succ]
        refine wpAnyH_take (i:=2) (oi:=({dst:=some 49,op:=Op.fieldAddr 33 (Operand.tmp 5) 0,type:=0,pos:= "l02_tree.go:66",after:=#[],guard:=none}:Oper)) (v:=?_) rfl (by kernel_rfl) (by kernel_rfl) (by kernel_rfl) (fun _ _ _ h=>h) (Or.inl ⟨by rfl,?_⟩) (by assumption) ?_;rotate_left
        ·(intro w cA;(try dsimp only at cA);go_simp;try with_reducible rfl)
        try simp only[Act.put,List.setIfInBounds_toArray,List.set_cons_zero,List.set_cons_succ]
        refine wpAnyH_take (i:=3) (oi:=({dst:=some 50,op:=Op.load 31 (Operand.tmp 49),type:=31,pos:= "l02_tree.go:66",after:=#[{on:=2,ground:=Ground.data}],guard:=none}:Oper)) (v:=?_) rfl (by kernel_rfl) (by kernel_rfl) (by kernel_rfl) (fun _ _ _ h=>h) (Or.inl ⟨by rfl,?_⟩) (by assumption) ?_;rotate_left
        ·(intro w cA;(try dsimp only at cA);go_simp;try with_reducible rfl)
        try simp only[Act.put,List.setIfInBounds_toArray,List.set_cons_zero,List.set_cons_succ]
        refine wpAnyH_take (i:=4) (oi:=({dst:=some 51,op:=Op.load 61 (Operand.tmp 6),type:=61,pos:= "l02_tree.go:66",after:=#[],guard:=none}:Oper)) (v:=?_) rfl (by kernel_rfl) (by kernel_rfl) (by kernel_rfl) (fun _ _ _ h=>h) (Or.inl ⟨by rfl,?_⟩) (by assumption) ?_;rotate_left
        ·(intro w cA;(try dsimp only at cA);go_simp;try with_reducible rfl)
        try simp only[Act.put,List.setIfInBounds_toArray,List.set_cons_zero,List.set_cons_succ]
        refine wpAnyH_take (i:=5) (oi:=({dst:=some 52,op:=Op.move (Operand.tmp 2),type:=2,pos:= "l02_tree.go:66",after:=#[],guard:=none}:Oper)) (v:=?_) rfl (by kernel_rfl) (by kernel_rfl) (by kernel_rfl) (fun _ _ _ h=>h) (Or.inl ⟨by rfl,?_⟩) (by assumption) ?_;rotate_left
        ·(intro w cA;(try dsimp only at cA);go_simp;try with_reducible rfl)
        try simp only[Act.put,List.setIfInBounds_toArray,List.set_cons_zero,List.set_cons_succ]
        refine wpAnyH_take (i:=7) (oi:=({dst:=some 54,op:=Op.fieldAddr 151 (Operand.tmp 11) 1,type:=0,pos:= "l02_tree.go:66",after:=#[],guard:=none}:Oper)) (v:=?_) rfl (by kernel_rfl) (by kernel_rfl) (by kernel_rfl) (fun _ _ _ h=>h) (Or.inl ⟨by rfl,?_⟩) (by assumption) ?_;rotate_left
        ·(intro w cA;(try dsimp only at cA);go_simp;try with_reducible rfl)
        try simp only[Act.put,List.setIfInBounds_toArray,List.set_cons_zero,List.set_cons_succ]
        refine wpAnyH_take (i:=8) (oi:=({dst:=some 55,op:=Op.load 61 (Operand.tmp 54),type:=61,pos:= "l02_tree.go:66",after:=#[{on:=7,ground:=Ground.data}],guard:=none}:Oper)) (v:=?_) rfl (by kernel_rfl) (by kernel_rfl) (by kernel_rfl) (fun _ _ _ h=>h) (Or.inl ⟨by rfl,?_⟩) (by assumption) ?_;rotate_left
        ·(intro w cA;(try dsimp only at cA);go_simp;try with_reducible rfl)
        try simp only[Act.put,List.setIfInBounds_toArray,List.set_cons_zero,List.set_cons_succ]
        refine wpAnyH_take (i:=9) (oi:=({dst:=some 56,op:=Op.move (Operand.tmp 4),type:=2,pos:= "l02_tree.go:66",after:=#[],guard:=none}:Oper)) (v:=?_) rfl (by kernel_rfl) (by kernel_rfl) (by kernel_rfl) (fun _ _ _ h=>h) (Or.inl ⟨by rfl,?_⟩) (by assumption) ?_;rotate_left
        ·(intro w cA;(try dsimp only at cA);go_simp;try with_reducible rfl)
        try simp only[Act.put,List.setIfInBounds_toArray,List.set_cons_zero,List.set_cons_succ]
        refine wpAnyH_ready (rs:=[6]) (by kernel_rfl) (by simp) ?_;refine AllReadyH.cons (o:=({dst:=some 53,op:=Op.call {callee:=Callee.value (Operand.func 102),args:=#[Operand.tmp 50,Operand.tmp 51,Operand.tmp 52],argTypes:=#[31,61,2]},type:=159,pos:= "l02_tree.go:66",after:=#[{on:=3,ground:=Ground.data},{on:=4,ground:=Ground.data},{on:=5,ground:=Ground.data}],guard:=none}:Oper)) rfl (fun K hK=>?_) AllReadyH.nil;go_simp;go_at_call 102;refine(zJK _ lo hi p xs xb n _ ?_ lB.out pA).mono ?_
        ·first | exact(Hp.out.zRX aB).1 | exact(Hp.out.zRX aB.drew).1
        rintro e wa ⟨o,rfl,eB,kA⟩;obtain⟨iC,jC,rfl,_⟩:=zY eB;have jA:=zE eB;clear eB;have gA:Below wD.heap.size wD wa:=(by first | exact kA | exact zK kA);obtain⟨⟨k0,_⟩,⟨k1,_⟩,⟨k2,_⟩,⟨k3,_⟩,_⟩:=lA.out.zRX gA;obtain⟨⟨k4,_⟩,_⟩:=rA.out.zRX gA;obtain⟨⟨k5,_⟩,⟨k6,_⟩⟩:=sA.out.zRX gA
        (try go_wp2_with fail)
        refine hK.out _ _ ?_ (fun aA=>?_)
        ·(try dsimp only)
         go_keep
        clear hK K hHeld;have hHeld:=aA;clear aA
        try simp only[Act.put,List.setIfInBounds_toArray,List.set_cons_zero,List.set_cons_succ]
        refine wpAnyH_ready (rs:=[10]) (by kernel_rfl) (by simp) ?_;refine AllReadyH.cons (o:=({dst:=some 57,op:=Op.call {callee:=Callee.value (Operand.func 101),args:=#[Operand.tmp 48,Operand.tmp 53,Operand.tmp 55,Operand.tmp 56],argTypes:=#[33,159,61,2]},type:=64,pos:= "l02_tree.go:66",after:=#[{on:=1,ground:=Ground.data},{on:=6,ground:=Ground.data},{on:=8,ground:=Ground.data},{on:=9,ground:=Ground.data},{on:=6,ground:=Ground.chain}],guard:=none}:Oper)) rfl (fun K hK=>?_) AllReadyH.nil;go_simp;go_at_call 101;refine(zHD _ _ _ _ p od.zRd xs xb od.ps od.pb b n _ wa (dC.out.zRX gA).at pA oC.out (jA.out.mono (Nat.zero_le _))).mono ?_;rintro e wb (⟨vB,tB,gB⟩ | ⟨vB,s0,s1,tB,mC,gB⟩);rotate_left
        ·exact absurd vB HC.out
        subst tB;have dA:=zA gA gB;obtain⟨⟨l0,_⟩,⟨l1,_⟩,⟨l2,_⟩,⟨l3,_⟩,_⟩:=lA.out.zRX dA;obtain⟨⟨l4,_⟩,_⟩:=rA.out.zRX dA;obtain⟨⟨l5,_⟩,⟨l6,_⟩⟩:=sA.out.zRX dA;have pB:=zE (rB.out.zRX dA);obtain⟨⟨r0,r1⟩,⟨r2,r3⟩,⟨r4,r5⟩,⟨r6,r7⟩,⟨r8,r9⟩,⟨oA,nA⟩⟩:=pB.out;have eA:Hid (∀(u0 u1 u2 u3 u4 u5:Value),(fun (w':World)=>w'.cell? ⟨T,0,none⟩=some (.slice ta od.zRd.n tc)/\w'.cell? ⟨T,1,none⟩=some (.slice bB od.zRd.hn cB)/\w'.cell? ⟨T,2,none⟩=some (.int .i64 od.ps)/\w'.cell? ⟨T,3,none⟩=some (.int .i64 od.pb)/\w'.cell? ⟨w.heap.size,0,none⟩=some (.slice a p.n c)/\w'.cell? ⟨w.heap.size+1,0,none⟩=some (.int .i64 xs)/\w'.cell? ⟨w.heap.size+1,1,none⟩=some (.int .i64 xb)) (put6 wb (w.heap.size+1+1) u0 u1 u2 u3 u4 u5)):=by
         intro u0 u1 u2 u3 u4 u5;have t:=zF.put6 wb (w.heap.size+1+1) u0 u1 u2 u3 u4 u5;have g1:=(lA.out.zRX dA).zRf t (by omega);have g2:=(rA.out.zRX dA).zRf t (by omega);have g3:=(sA.out.zRX dA).zRf t (by omega);exact⟨g1.1.1,g1.2.1.1,g1.2.2.1.1,g1.2.2.2.1.1,g2.1.1,g3.1.1,g3.2.1⟩
        (try go_wp2_with fail)
        refine hK.out _ _ ?_ (fun aA=>?_)
        ·(try dsimp only)
         go_keep
        clear hK K hHeld;have hHeld:=aA;clear aA
        try simp only[Act.put,List.setIfInBounds_toArray,List.set_cons_zero,List.set_cons_succ]
        refine wpAnyH_ready (rs:=[11]) (by kernel_rfl) (by simp) ?_;refine AllReadyH.cons (o:=({dst:=none,op:=Op.store 64 (Operand.tmp 10) (Operand.tmp 57),type:=0,pos:= "l02_tree.go:66",after:=#[{on:=10,ground:=Ground.data},{on:=10,ground:=Ground.chain},{on:=0,ground:=Ground.phase},{on:=1,ground:=Ground.phase},{on:=2,ground:=Ground.phase},{on:=3,ground:=Ground.phase},{on:=4,ground:=Ground.phase},{on:=5,ground:=Ground.phase},{on:=6,ground:=Ground.phase},{on:=7,ground:=Ground.phase},{on:=8,ground:=Ground.phase},{on:=9,ground:=Ground.phase},{on:=10,ground:=Ground.phase}],guard:=none}:Oper)) rfl (fun K hK=>?_) AllReadyH.nil;go_simp
        (try go_wp2_with fail)
        refine hK.out _ _ ?_ (fun aA=>?_)
        ·(try dsimp only)
         exact eA.out _ _ _ _ _ _
        clear hK K hHeld;have hHeld:=aA;clear aA
        try simp only[Act.put,List.setIfInBounds_toArray,List.set_cons_zero,List.set_cons_succ]
        refine wpAnyH_done (by kernel_rfl) ?_ _;have bA:=pB.out.put (.slice none 0 0) (.slice none 0 0) (.int .i64 0) (.int .i64 0) (.slice none 0 0) (.int .i64 (zBp p xs xb n b ⟨od.zRd,od.ps,od.pb,0⟩).code);have fA:=zAu (R:=w.heap.size+1+1) (c:=(zBp p xs xb n b ⟨od.zRd,od.ps,od.pb,0⟩).code) (by omega) (zA aB dA);have fD:=zE fA;clear hHeld eA l0 l1 l2 l3 l4 l5 l6 k0 k1 k2 k3 k4 k5 k6 fA;go_wp2;have hE:=eC.out.trans (zPh HC.out);rw[hE];exact bodyPost_ret (v:=.agg #[.slice none 0 0,.slice none 0 0,.int .i64 0,.int .i64 0,.slice none 0 0,.int .i64 (zBp p xs xb n b ⟨od.zRd,od.ps,od.pb,0⟩).code]) (by simp[results,Tryz.results36,go_sem,bA.1.1,bA.2.1.1,bA.2.2.1.1,bA.2.2.2.1.1,bA.2.2.2.2.1.1,bA.2.2.2.2.2.1]) rfl fD.out
      ·have jD:(od.code != 0)=true:=(by simp[hc]);have eC:=zE (kC.out hc);clear hc kC lC;obtain⟨⟨r0,r1⟩,⟨r2,r3⟩,⟨r4,r5⟩,⟨r6,r7⟩,⟨r8,r9⟩,⟨oA,nA⟩⟩:=rB.out
       try go_wp2
       have bA:=rB.out.put (.slice none 0 0) (.slice none 0 0) (.int .i64 0) (.int .i64 0) (.slice none 0 0) (.int .i64 od.code);have fA:=zAu (R:=w.heap.size+1+1) (c:=od.code) (by omega) aB;rw[eC.out];exact bodyPost_ret (v:=.agg #[.slice none 0 0,.slice none 0 0,.int .i64 0,.int .i64 0,.slice none 0 0,.int .i64 od.code]) (by simp[results,Tryz.results36,go_sem,bA.1.1,bA.2.1.1,bA.2.2.1.1,bA.2.2.2.1.1,bA.2.2.2.2.1.1,bA.2.2.2.2.2.1]) rfl fA
     ·have cC:Hid (¬(zCJ (n:Int)/\d.size=16)):=fun h=>iA h.2
      have iD:((d.size:Int) != 16)=true:=(by simp;omega);clear iA;go_wp2_with (first | (go_at_call 99;refine(zCn _ _).mono ?_;rintro e w9 ⟨⟨t2,rfl,vA⟩,rfl⟩;obtain rfl:t2=true:=vA.2 oB.out;clear vA) | fail);obtain⟨⟨r0,r1⟩,⟨r2,r3⟩,⟨r4,r5⟩,⟨r6,r7⟩,⟨r8,r9⟩,⟨oA,nA⟩⟩:=mA.out
      try go_wp2
      have bA:=mA.out.put (.slice none 0 0) (.slice none 0 0) (.int .i64 0) (.int .i64 0) (.slice none 0 0) (.int .i64 8);have fA:=zAu (R:=w.heap.size+1+1) (c:=8) (by omega) iB;rw[zCC tA.out aC.out cC.out];exact bodyPost_ret (v:=.agg #[.slice none 0 0,.slice none 0 0,.int .i64 0,.int .i64 0,.slice none 0 0,.int .i64 8]) (by simp[results,Tryz.results36,go_sem,bA.1.1,bA.2.1.1,bA.2.2.1.1,bA.2.2.2.1.1,bA.2.2.2.2.1.1,bA.2.2.2.2.2.1]) rfl fA
    ·have oB:=zE hN;clear hN;go_wp2_with (first | (go_at_call 99;refine(zCn _ _).mono ?_;rintro e w9 ⟨⟨t2,rfl,vA⟩,rfl⟩;obtain rfl:t2=false:=zQ vA oB.out;clear vA) | fail);obtain⟨⟨r0,r1⟩,⟨r2,r3⟩,⟨r4,r5⟩,⟨r6,r7⟩,⟨r8,r9⟩,⟨oA,nA⟩⟩:=mA.out
     try go_wp2
     have bA:=mA.out.put (.slice none 0 0) (.slice none 0 0) (.int .i64 0) (.int .i64 0) (.slice none 0 0) (.int .i64 8);have fA:=zAu (R:=w.heap.size+1+1) (c:=8) (by omega) iB;rw[zCC tA.out aC.out (fun h=>oB.out h.1)];exact bodyPost_ret (v:=.agg #[.slice none 0 0,.slice none 0 0,.int .i64 0,.int .i64 0,.slice none 0 0,.int .i64 8]) (by simp[results,Tryz.results36,go_sem,bA.1.1,bA.2.1.1,bA.2.2.1.1,bA.2.2.2.1.1,bA.2.2.2.2.1.1,bA.2.2.2.2.2.1]) rfl fA
   ·have oD:=zE jB;obtain rfl:t=false:=zQ ht jB;clear ht jB;obtain⟨⟨r0,r1⟩,⟨r2,r3⟩,⟨r4,r5⟩,⟨r6,r7⟩,⟨r8,r9⟩,⟨oA,nA⟩⟩:=mA.out
    try go_wp2
    have bA:=mA.out.put (.slice none 0 0) (.slice none 0 0) (.int .i64 0) (.int .i64 0) (.slice none 0 0) (.int .i64 1);have fA:=zAu (R:=w.heap.size+1+1) (c:=1) (by omega) iB;rw[zC0 tA.out (fun h=>oD.out h.2)];exact bodyPost_ret (v:=.agg #[.slice none 0 0,.slice none 0 0,.int .i64 0,.int .i64 0,.slice none 0 0,.int .i64 1]) (by simp[results,Tryz.results36,go_sem,bA.1.1,bA.2.1.1,bA.2.2.1.1,bA.2.2.2.1.1,bA.2.2.2.2.1.1,bA.2.2.2.2.2.1]) rfl fA
  ·have lB:=zE kB;obtain rfl:t=false:=zQ ht kB;clear ht kB;obtain⟨⟨r0,r1⟩,⟨r2,r3⟩,⟨r4,r5⟩,⟨r6,r7⟩,⟨r8,r9⟩,⟨oA,nA⟩⟩:=gC.out
   try go_wp2
   have bA:=gC.out.put (.slice none 0 0) (.slice none 0 0) (.int .i64 0) (.int .i64 0) (.slice none 0 0) (.int .i64 1);have fA:=zAu (R:=w.heap.size+1+1) (c:=1) (by omega) sC;rw[zC0 tA.out (fun h=>lB.out h.1)];exact bodyPost_ret (v:=.agg #[.slice none 0 0,.slice none 0 0,.int .i64 0,.int .i64 0,.slice none 0 0,.int .i64 1]) (by simp[results,Tryz.results36,go_sem,bA.1.1,bA.2.1.1,bA.2.2.1.1,bA.2.2.2.1.1,bA.2.2.2.2.1.1,bA.2.2.2.2.2.1]) rfl fA
theorem zH8{p:zI}{xs xb:Int}{n:Nat}(hT:qp p xs xb)(hn:n<64):∀{L:Nat},L<3->¬Nil (qy p xs xb n L) (yk p xs xb n L)->zr p (qy p xs xb n L) (yk p xs xb n L)/\yk p xs xb n L<=xb
 | 0,_,hN=>⟨(hT.2.resolve_left hN).1.1,Int.le_refl _⟩
 | L+1,hL,hN=>by
  have aA:¬Nil (qy p xs xb n L) (yk p xs xb n L):=fun h=>hN (zEy h (by omega))
  obtain⟨h1,h2⟩:=zH8 hT hn (L:=L) (by omega) aA;rw[(zDe p xs xb n (show L<2 by omega)).1,(zDe p xs xb n (show L<2 by omega)).2]at hN ⊢;unfold zCG at hN ⊢;rw[if_neg aA,if_neg aA]at hN ⊢;obtain⟨h3,h4⟩:=zAi (qS hT.1 h1) (zKT (n:=n) (L:=L) hn) hN;refine⟨h3,?_⟩;have h5:=h1.2.2.2;have bA:zj (p.s (qy p xs xb n L).toNat) (plc n L*2+1)<=(p.s (qy p xs xb n L).toNat).zRi:=h4;omega
theorem zLt{p q:zI}{xs xb x y b:Int}{n L:Nat}(hT:qp p xs xb)(hn:n<64)(hL:L<2)(hB:yB xb b)(aA:∀s t,zr p s t->zr q s t)(hx:Nil x y\/(zr q x y/\y<=b)) :
  zAg q (zAh (zBV p xs xb n L x) (zBP p xs xb n L y) b):=by
 refine⟨hB.1,Or.inr ⟨rfl,by simp[zAh,Go.ByteArray.toList_eq],fun i hi=>?_⟩⟩;have bA:i<8:=hi;show zH5 q b (zBV p xs xb n L x i) (zBP p xs xb n L y i);unfold zBV zBP;by_cases e:i=plc n L
 ·rw[if_pos e,if_pos e];rcases hx with h | h
  ·exact Or.inl h
  ·exact Or.inr h
 ·rw[if_neg e,if_neg e];unfold yp zAI;by_cases hN:Nil (qy p xs xb n L) (yk p xs xb n L)
  ·rw[if_pos hN,if_pos hN];exact Or.inl ⟨rfl,rfl⟩
  ·rw[if_neg hN,if_neg hN];obtain⟨h1,h2⟩:=zH8 hT hn (L:=L) (by omega) hN;by_cases hk:Nil (zb (p.s (qy p xs xb n L).toNat) i) (zt (p.s (qy p xs xb n L).toNat) i)
   ·exact Or.inl hk
   ·obtain⟨h3,h4⟩:=zAi (qS hT.1 h1) bA hk;refine Or.inr ⟨aA _ _ h3,?_⟩;have h5:=h1.2.2.2;have h6:=hB.2;omega
theorem zDS{f:Nat->zL}:∀{n:Nat},roomN f n=0->∀j,j<n->¬qE (f j)
 | 0,_,j,hj=>absurd hj (Nat.not_lt_zero _)
 | n+1,h,j,hj=>by
  by_cases hf:qE (f n)
  ·rw[zBu hf]at h;omega
  ·rw[zCD hf]at h;by_cases e:j=n
   ·rw[e];exact hf
   ·exact zDS h j (by omega)
theorem zAR{f:Nat->zL}:∀{n:Nat},0<roomN f n->∃i,qz n f i
 | 0,h=>absurd h (Nat.lt_irrefl _)
 | n+1,h=>by
  by_cases h0:0<roomN f n
  ·obtain⟨i,h1,h2,h3⟩:=zAR h0;exact⟨i,by omega,h2,h3⟩
  ·by_cases hf:qE (f n)
   ·exact⟨n,by omega,hf,zDS (by omega)⟩
   ·rw[zCD hf]at h;exact absurd h h0
theorem zCa{p:zI}{i:Nat}{s:zL}(hi:qz p.n p.s i)(hs:zAg p s):roomN (yG p i s).s p.n+1=roomN p.s p.n:=by
 have h:=zLI (p:=p) (i:=i) (s:=s) hi.2.1 (zAG hs) p.n;rw[if_pos hi.1]at h;exact h
theorem zAe{p:zI}{b:Int}{d:ByteArray}(hb:qi b)(hd:d.size=16):zAg p (qj b d):=⟨hb,Or.inl ⟨rfl,hd⟩⟩
theorem zDt{p:zI}{i:Nat}{s:zL}(hi:qz p.n p.s i)(hs:1<=s.zRi):zr (yG p i s) (i:Int) s.zRi:=
 ⟨hs,by omega,by have:=hi.1;show(i:Int)<(p.n:Int);omega,by rw[Int.toNat_natCast,zCB]⟩
theorem zD6{p:zI}{xs xb x b:Int}{n L:Nat}(hn:n<64)(hb:1<=b):¬zEL (zBV p xs xb n L x) (zBP p xs xb n L b):=fun h=>by
 have:=(h (plc n L) (zKT hn)).2;unfold zBP at this;rw[if_pos rfl]at this;omega
def qh(p:zI)(b:Int)(d:ByteArray)(i0:Nat):zI:=yG p i0 (qj b d)
def zAb(p:zI)(xs xb:Int)(n:Nat)(b:Int)(d:ByteArray)(i0 i1:Nat):zI:=yG (qh p b d i0) i1 (zAh (zBV p xs xb n 1 (i0:Int)) (zBP p xs xb n 1 b) b)
def zHI(p:zI)(xs xb:Int)(n:Nat)(b:Int)(d:ByteArray)(i0 i1 i2:Nat):zI:=yG (zAb p xs xb n b d i0 i1) i2 (zAh (zBV p xs xb n 0 (i1:Int)) (zBP p xs xb n 0 b) b)
theorem zRK{p:zI}{xs xb b:Int}{d:ByteArray}{i0:Nat}(hT:qp p xs xb)(hB:yB xb b)(hd:d.size=16)(h0:qz p.n p.s i0):qw p (qj b d)=⟨qh p b d i0,(i0:Int),b,0⟩:=
 zHU ⟨hT.1,zAG (zAe (p:=p) hB.1 hd),zAe hB.1 hd⟩ h0
theorem zDl{p:zI}{xs xb b:Int}{d:ByteArray}{i0:Nat}(hT:qp p xs xb)(hB:yB xb b)(hd:d.size=16)(h0:qz p.n p.s i0):zx (qh p b d i0):=zGv hT.1 h0 (zAe hB.1 hd)
theorem zBS{p:zI}{xs xb b:Int}{n:Nat}{d:ByteArray}{i0:Nat}(hT:qp p xs xb)(hn:n<64)(hB:yB xb b)(h0:qz p.n p.s i0):zAg (qh p b d i0) (zAh (zBV p xs xb n 1 (i0:Int)) (zBP p xs xb n 1 b) b):=
 zLt hT hn (by omega) hB (fun s t h=>zD1 h0.2.1 h) (Or.inr ⟨zDt (s:=qj b d) h0 hB.1.1,Int.le_refl _⟩)
theorem zEF{p:zI}{xs xb b:Int}{n:Nat}{d:ByteArray}{i0 i1:Nat}(hT:qp p xs xb)(hn:n<64)(hB:yB xb b)(h0:qz p.n p.s i0)(h1:qz p.n (qh p b d i0).s i1):zAg (zAb p xs xb n b d i0 i1) (zAh (zBV p xs xb n 0 (i1:Int)) (zBP p xs xb n 0 b) b):=
 zLt hT hn (by omega) hB (fun s t h=>zD1 (p:=qh p b d i0) h1.2.1 (zD1 h0.2.1 h)) (Or.inr ⟨zDt (p:=qh p b d i0) (s:=zAh (zBV p xs xb n 1 (i0:Int)) (zBP p xs xb n 1 b) b) h1 hB.1.1,Int.le_refl _⟩)
theorem zRM{p:zI}{xs xb b:Int}{n:Nat}{d:ByteArray}{i0:Nat}(hn:n<64)(hB:yB xb b):layS p xs xb n b ⟨qh p b d i0,(i0:Int),b,0⟩ 1=qw (qh p b d i0) (zAh (zBV p xs xb n 1 (i0:Int)) (zBP p xs xb n 1 b) b):=
 if_neg (zD6 hn hB.1.1)
theorem zKw{p:zI}{xs xb b:Int}{n:Nat}{d:ByteArray}{i0 i1:Nat}(hT:qp p xs xb)(hn:n<64)(hB:yB xb b)(hd:d.size=16)(h0:qz p.n p.s i0)(h1:qz p.n (qh p b d i0).s i1):layS p xs xb n b ⟨qh p b d i0,(i0:Int),b,0⟩ 1=⟨zAb p xs xb n b d i0 i1,(i1:Int),b,0⟩:=by
 rw[zRM hn hB];exact zHU ⟨zDl hT hB hd h0,zAG (zBS (d:=d) hT hn hB h0),zBS hT hn hB h0⟩ h1
theorem zRP{p:zI}{xs xb b:Int}{n:Nat}{d:ByteArray}{i0 i1:Nat}(hT:qp p xs xb)(hn:n<64)(hB:yB xb b)(hd:d.size=16)(h0:qz p.n p.s i0)(h1:qz p.n (qh p b d i0).s i1):layS p xs xb n b ⟨qh p b d i0,(i0:Int),b,0⟩ 2=qw (zAb p xs xb n b d i0 i1) (zAh (zBV p xs xb n 0 (i1:Int)) (zBP p xs xb n 0 b) b):=by
 show zNf p xs xb n b (layS p xs xb n b ⟨qh p b d i0,(i0:Int),b,0⟩ 1) 0=_;rw[zKw hT hn hB hd h0 h1];exact if_neg (zD6 hn hB.1.1)
theorem zNu{n:Nat}(hn:n<64):zCJ (n:Int):=⟨by omega,by omega⟩
theorem zMH{p:zI}{xs xb b:Int}{n:Nat}{d:ByteArray}{i0:Nat}(hT:qp p xs xb)(hn:n<64)(hB:yB xb b)(hd:d.size=16)(h0:qz p.n p.s i0):qo p xs xb (n:Int) d b=zBp p xs xb n b ⟨qh p b d i0,(i0:Int),b,0⟩:=by
 have t0:=zRK hT hB hd h0;rw[zJG (by omega) ⟨hT,hB⟩ ⟨zNu hn,hd⟩ (by rw[t0]),t0];rfl
theorem zFU{p:zI}{xs xb b:Int}{n:Nat}{d:ByteArray}{i0 i1:Nat}(hT:qp p xs xb)(hn:n<64)(hB:yB xb b)(hd:d.size=16)(h0:qz p.n p.s i0)(h1:qz p.n (qh p b d i0).s i1):zx (zAb p xs xb n b d i0 i1):=
 zGv (zDl hT hB hd h0) h1 (zBS hT hn hB h0)
theorem zLE{p:zI}{xs xb b:Int}{n:Nat}{d:ByteArray}{i0 i1 i2:Nat}(hT:qp p xs xb)(hn:n<64)(hB:yB xb b)(hd:d.size=16)(h0:qz p.n p.s i0)(h1:qz p.n (qh p b d i0).s i1)(h2:qz p.n (zAb p xs xb n b d i0 i1).s i2) :
  qo p xs xb (n:Int) d b=⟨zHI p xs xb n b d i0 i1 i2,(i2:Int),b,yg p xs xb n 3,0⟩:=by
 rw[zMH hT hn hB hd h0];have e1:=zKw hT hn hB hd h0 h1;have e2:layS p xs xb n b ⟨qh p b d i0,(i0:Int),b,0⟩ 2=⟨zHI p xs xb n b d i0 i1 i2,(i2:Int),b,0⟩:=by
  rw[zRP hT hn hB hd h0 h1];exact zHU ⟨zFU hT hn hB hd h0 h1,zAG (zEF (d:=d) hT hn hB h0 h1),zEF hT hn hB h0 h1⟩ h2
 rw[zL2 (fun j hj=>by
  rcases j with _ | _ | _ | j
  ·rfl
  ·rw[e1]
  ·rw[e2]
  ·omega),e2]
theorem zHz{p:zI}{xs xb b:Int}{n:Nat}{d:ByteArray}(hT:qp p xs xb)(hn:n<64)(hB:yB xb b)(hd:d.size=16)(hr:roomN p.s p.n<3):qo p xs xb (n:Int) d b=zAU 6:=by
 by_cases r0:roomN p.s p.n=0
 ·have t0:=zEu (p:=p) (s:=qj b d) ⟨hT.1,zAG (zAe (p:=p) hB.1 hd),zAe hB.1 hd⟩ (zDS r0);rw[zIj (by omega) ⟨hT,hB⟩ ⟨zNu hn,hd⟩ (by rw[t0];decide),t0]
 ·obtain⟨i0,h0⟩:=zAR (f:=p.s) (n:=p.n) (by omega);have q0:=zCa (s:=qj b d) h0 (zAe hB.1 hd);rw[zMH hT hn hB hd h0];by_cases r1:roomN (qh p b d i0).s p.n=0
  ·have t1:=zEu (p:=qh p b d i0) ⟨zDl hT hB hd h0,zAG (zBS (n:=n) (d:=d) hT hn hB h0),zBS hT hn hB h0⟩ (zDS r1);have e1:=zRM (p:=p) (xs:=xs) (d:=d) (i0:=i0) hn hB;rw[t1]at e1;rw[zKF (k:=0) (by omega) (fun j hj=>by obtain rfl:j=0:=by omega
                           rfl) (by rw[e1];decide),e1]
  ·obtain⟨i1,h1⟩:=zAR (f:=(qh p b d i0).s) (n:=p.n) (by omega);have q1:roomN (zAb p xs xb n b d i0 i1).s p.n+1=roomN (qh p b d i0).s p.n:=zCa (p:=qh p b d i0) h1 (zBS hT hn hB h0);have aA:roomN (qh p b d i0).s p.n+1=roomN p.s p.n:=q0;have r2:roomN (zAb p xs xb n b d i0 i1).s p.n=0:=(by omega);have t2:=zEu (p:=zAb p xs xb n b d i0 i1) ⟨zFU hT hn hB hd h0 h1,zAG (zEF (d:=d) hT hn hB h0 h1),zEF hT hn hB h0 h1⟩ (zDS r2);have e1:=zKw hT hn hB hd h0 h1;have e2:=zRP hT hn hB hd h0 h1;rw[t2]at e2;rw[zKF (k:=1) (by omega) (fun j hj=>by
    rcases j with _ | _ | j
    ·rfl
    ·rw[e1]
    ·omega) (by rw[e2];decide),e2]
theorem zHf{l:List (Int×Int)}{x:Int}:x∈yH l↔∃y,(x,y)∈l:=by
 unfold yH;rw[List.mem_map];constructor
 ·rintro⟨⟨a,b⟩,h,rfl⟩;exact⟨b,h⟩
 ·rintro⟨y,h⟩;exact⟨(x,y),h,rfl⟩
theorem zFA{xs xb x:Int}:x∈yH (one xs xb)↔x=xs/\¬Nil xs xb:=by
 rw[zHf];constructor
 ·rintro⟨y,h⟩;obtain⟨e,hn⟩:=zK1.1 h;simp only[Prod.mk.injEq]at e;exact⟨e.1,hn⟩
 ·rintro⟨rfl,hn⟩;exact⟨xb,zK1.2 ⟨rfl,hn⟩⟩
theorem zEK{ks kb:Nat->Int}{k:Nat}{x:Int}:x∈yH (kidsUp ks kb k)↔∃i,i<k/\x=ks i/\¬Nil (ks i) (kb i):=by
 rw[zHf];constructor
 ·rintro⟨y,h⟩;obtain⟨i,hi,e,hn⟩:=zAW.1 h;simp only[Prod.mk.injEq]at e;exact⟨i,hi,e.1,hn⟩
 ·rintro⟨i,hi,rfl,hn⟩;exact⟨kb i,zAW.2 ⟨i,hi,rfl,hn⟩⟩
theorem zOM(xs xb:Int):(yH (one xs xb)).Nodup:=by
 unfold one yH;split<;>simp
theorem zFw{ks kb:Nat->Int}:∀{k:Nat},(yH (kidsUp ks kb k)).Nodup↔∀i,i<k->∀j,j<i->¬Nil (ks i) (kb i)->¬Nil (ks j) (kb j)->ks j≠ks i
 | 0=>by simp[kidsUp,yH]
 | k+1=>by
  rw[kidsUp,zA4,List.nodup_append,zFw (k:=k)];constructor
  ·rintro⟨h1,_,h2⟩ i hi j hj ni nj;by_cases e:i=k
   ·subst e;exact h2 _ (zEK.2 ⟨j,hj,rfl,nj⟩) _ (zFA.2 ⟨rfl,ni⟩)
   ·exact h1 i (by omega) j hj ni nj
  ·intro h;refine⟨fun i hi j hj=>h i (by omega) j hj,zOM _ _,fun a ha b hb=>?_⟩;obtain⟨j,hj,rfl,nj⟩:=zEK.1 ha;obtain⟨rfl,nk⟩:=zFA.1 hb;exact h k (Nat.lt_succ_self k) j hj nk nj
theorem zGa{p:zI}{x xb y yb:Int}(h:zAj p x xb)(h':zBj p y yb):x≠y:=fun e=>by
 subst e;have:=h.2.1;have:=h'.2.1;omega
theorem zOY{p:zI}{rs:Int}(hT:zQn p (p.s rs.toNat)){i:Nat}(hi:i<8)(hn:¬Nil (zb (p.s rs.toNat) i) (zt (p.s rs.toNat) i)):zb (p.s rs.toNat) i≠rs:=fun e=>by
 have h1:=(hT.1 i hi).resolve_left hn;rw[e]at h1;obtain⟨j,hj,nj⟩:=hT.2;have h2:=((hT.1 j hj).resolve_left nj).1;have h3:=(h1.2.1 j hj).resolve_left nj;exact zGa h2 h3 rfl
structure Ext (p q:zI):Prop where
 n:q.n=p.n
 hn:q.hn=p.hn
 h:q.h=p.h
 s:∀j,¬qE (p.s j)->q.s j=p.s j
theorem Ext.refl(p:zI):Ext p p:=⟨rfl,rfl,rfl,fun _ _=>rfl⟩
theorem Ext.trans{p q r:zI}(h:Ext p q)(k:Ext q r):Ext p r:=⟨k.n.trans h.n,k.hn.trans h.hn,k.h.trans h.h,fun j hj=>(k.s j (by rw[h.s j hj];exact hj)).trans (h.s j hj)⟩
theorem Ext.set{p:zI}{i:Nat}(hi:qE (p.s i))(s:zL):Ext p (yG p i s):=⟨rfl,rfl,rfl,fun j hj=>zDR p s (fun e=>hj (e▸hi))⟩
theorem zHJ{p:zI}{xs xb:Int}(h:zr p xs xb):¬qE (p.s xs.toNat):=fun hf=>by
 have:=hf.1;have:=h.1;have:=h.2.2.2;omega
theorem Ext.at{p q:zI}(h:Ext p q){xs xb:Int}(hp:zr p xs xb):q.s xs.toNat=p.s xs.toNat:=h.s _ (zHJ hp)
theorem Ext.points{p q:zI}(h:Ext p q){xs xb:Int}(hp:zr p xs xb):zr q xs xb:=⟨hp.1,hp.2.1,by rw[h.n];exact hp.2.2.1,by rw[h.at hp];exact hp.2.2.2⟩
theorem Ext.has{p q:zI}(h:Ext p q)(x:Int):Has q.hn q.h x↔Has p.hn p.h x:=by rw[h.hn,h.h]
theorem Ext.node{p q:zI}(h:Ext p q){xs xb:Int}(hp:zAj p xs xb):zAj q xs xb:=⟨h.points hp.1,by rw[h.at hp.1];exact hp.2.1,fun e=>hp.2.2 ((h.has xs).1 e)⟩
theorem Ext.zRj{p q:zI}(h:Ext p q){xs xb:Int}(hp:zBj p xs xb):zBj q xs xb:=⟨h.points hp.1,by rw[h.at hp.1];exact hp.2.1,fun e=>hp.2.2 ((h.has xs).1 e)⟩
def zLh(p:zI)(x:Int):Prop:=qE (p.s x.toNat)
structure New (p:zI) (xs xb:Int) (n:Nat) (b:Int) (q:zI) (ys yb ms mb gs gb:Int):Prop where
 ext:Ext p q;right:zx q
 zRj:Nil gs gb\/(zBj q gs gb/\zLh p gs)
 node:(Nil ms mb/\zEL (zBV p xs xb n 1 gs) (zBP p xs xb n 1 gb))\/(zAj q ms mb/\zLh p ms/\q.s ms.toNat=zAh (zBV p xs xb n 1 gs) (zBP p xs xb n 1 gb) b/\¬zEL (zBV p xs xb n 1 gs) (zBP p xs xb n 1 gb))
 root:(Nil ys yb/\zEL (zBV p xs xb n 0 ms) (zBP p xs xb n 0 mb))\/(zAj q ys yb/\zLh p ys/\q.s ys.toNat=zAh (zBV p xs xb n 0 ms) (zBP p xs xb n 0 mb) b/\¬zEL (zBV p xs xb n 0 ms) (zBP p xs xb n 0 mb))
theorem zPn{p:zI}{xs xb:Int}(hT:qp p xs xb){z:Int×Int}:z∈zR p xs xb↔(z=(xs,xb)/\¬Nil xs xb)\/(∃i,i<8/\z=(yp p xs xb i,zAI p xs xb i)/\¬Nil (yp p xs xb i) (zAI p xs xb i))\/∃k,k<64/\z=(zAB p xs xb k,yx p xs xb k)/\¬Nil (zAB p xs xb k) (yx p xs xb k):=by
 by_cases hz:Nil xs xb
 ·have e0:∀i,yp p xs xb i=0/\zAI p xs xb i=0:=fun i=>⟨if_pos hz,if_pos hz⟩
  have e1:∀k,Nil (zAB p xs xb k) (yx p xs xb k):=fun k=>by
   have hn:Nil (yO p xs xb k) (yj p xs xb k):=e0 (k / 8);exact⟨if_pos hn,if_pos hn⟩
  unfold zR;rw[if_pos hz];constructor
  ·intro h;simp at h
  ·rintro(⟨_,h⟩ | ⟨i,_,_,h⟩ | ⟨k,_,_,h⟩)
   ·exact absurd hz h
   ·exact absurd (e0 i) h
   ·exact absurd (e1 k) h
 ·have e0:∀i,yp p xs xb i=zb (p.s xs.toNat) i/\zAI p xs xb i=zt (p.s xs.toNat) i:=fun i=>⟨if_neg hz,if_neg hz⟩
  unfold zR;rw[if_neg hz,List.mem_cons,zCZ];constructor
  ·rintro(h | ⟨i,hi,h⟩)
   ·exact Or.inl ⟨h,hz⟩
   ·obtain⟨hn,h⟩:=zCu.1 h;rw[<-(e0 i).1,<-(e0 i).2]at hn;rcases h with h | h
    ·exact Or.inr (Or.inl ⟨i,hi,by rw[(e0 i).1,(e0 i).2];exact h,hn⟩)
    ·obtain⟨a,ha,h,na⟩:=zAW.1 h;have q1:(i*8+a) / 8=i:=(by omega);have q2:(i*8+a) % 8=a:=(by omega);have e1:zAB p xs xb (i*8+a)=zb (p.s (zb (p.s xs.toNat) i).toNat) a:=by
      unfold zAB yO yj;rw[q1,q2];unfold yp at hn ⊢;rw[if_neg hz]at hn ⊢;rw[if_neg hn]
     have e2:yx p xs xb (i*8+a)=zt (p.s (zb (p.s xs.toNat) i).toNat) a:=by
      have bA:=hn;rw[(e0 i).1,(e0 i).2]at bA;unfold yx yO yj;rw[q1,q2,(e0 i).1,(e0 i).2];exact if_neg bA
     exact Or.inr (Or.inr ⟨i*8+a,by omega,by rw[e1,e2];exact h,by rw[e1,e2];exact na⟩)
  ·rintro(⟨h,_⟩ | ⟨i,hi,h,hn⟩ | ⟨k,hk,h,hn⟩)
   ·exact Or.inl h
   ·rw[(e0 i).1,(e0 i).2]at h hn;exact Or.inr ⟨i,hi,zCu.2 ⟨hn,Or.inl h⟩⟩
   ·have aA:¬Nil (yO p xs xb k) (yj p xs xb k):=fun hx=>hn ⟨if_pos hx,if_pos hx⟩
    have e1:zAB p xs xb k=zb (p.s (yO p xs xb k).toNat) (k % 8):=if_neg aA;have e2:yx p xs xb k=zt (p.s (yO p xs xb k).toNat) (k % 8):=if_neg aA;rw[e1,e2]at h hn;have e3:yO p xs xb k=zb (p.s xs.toNat) (k / 8):=(e0 (k / 8)).1;have e4:yj p xs xb k=zt (p.s xs.toNat) (k / 8):=(e0 (k / 8)).2;rw[e3]at h hn;rw[e3,e4]at aA;exact Or.inr ⟨k / 8,by omega,zCu.2 ⟨aA,Or.inr (zAW.2 ⟨k % 8,by omega,h,hn⟩)⟩⟩
theorem zHW{p:zI}{xs xb:Int}(hz:¬Nil xs xb)(i:Nat):yp p xs xb i=zb (p.s xs.toNat) i/\zAI p xs xb i=zt (p.s xs.toNat) i:=⟨if_neg hz,if_neg hz⟩
theorem zFI{p:zI}{xs xb:Int}{i:Nat}(h:¬Nil (yp p xs xb i) (zAI p xs xb i)):¬Nil xs xb:=fun hx=>h ⟨if_pos hx,if_pos hx⟩
theorem zQW{p:zI}{xs xb:Int}(hT:qp p xs xb){i:Nat}(hi:i<8)(h:¬Nil (yp p xs xb i) (zAI p xs xb i)):zAj p (yp p xs xb i) (zAI p xs xb i)/\zPV p (p.s (yp p xs xb i).toNat):=by
 have hz:=zFI h;obtain⟨h1,h2,h3⟩:=hT.2.resolve_left hz;rw[(zHW hz i).1,(zHW hz i).2]at h ⊢;exact(h2.1 i hi).resolve_left h
theorem zQE{p:zI}{xs xb:Int}(hT:qp p xs xb)(h:¬Nil xs xb):zAj p xs xb:=(hT.2.resolve_left h).1
theorem zKg{p:zI}{xs xb:Int}(hT:qp p xs xb){i:Nat}(hi:i<8)(h:¬Nil (yp p xs xb i) (zAI p xs xb i)):yp p xs xb i≠xs:=by
 have hz:=zFI h;obtain⟨h1,h2,h3⟩:=hT.2.resolve_left hz;rw[(zHW hz i).1]at h ⊢;rw[(zHW hz i).2]at h;exact zOY h2 hi h
theorem Ext.free{p q:zI}(h:Ext p q){j:Nat}(hf:qE (q.s j)):qE (p.s j):=Classical.byContradiction fun hn=>hn (by rw[h.s j hn]at hf;exact hf)
theorem zQa{p:zI}{xs xb:Int}{n:Nat}{z:Int×Int}:z∈yg p xs xb n 3↔(z=(zAB p xs xb n,yx p xs xb n)/\¬Nil (zAB p xs xb n) (yx p xs xb n))\/(z=(yO p xs xb n,yj p xs xb n)/\¬Nil (yO p xs xb n) (yj p xs xb n))\/(z=(xs,xb)/\¬Nil xs xb):=by
 unfold yg;rw[zAW];constructor
 ·rintro⟨i,hi,h⟩;rcases i with _ | _ | _ | i
  ·exact Or.inl h
  ·exact Or.inr (Or.inl h)
  ·exact Or.inr (Or.inr h)
  ·omega
 ·rintro(h | h | h)
  ·exact⟨0,by omega,h⟩
  ·exact⟨1,by omega,h⟩
  ·exact⟨2,by omega,h⟩
theorem zNH{p:zI}{xs xb:Int}{n:Nat}(hT:qp p xs xb)(hn:n<64){z:Int×Int}(h:z∈yg p xs xb n 3):z∈zR p xs xb:=by
 rw[zPn hT];rcases zQa.1 h with h | h | h
 ·exact Or.inr (Or.inr ⟨n,hn,h⟩)
 ·exact Or.inr (Or.inl ⟨n / 8,by omega,h⟩)
 ·exact Or.inl h
theorem zHk{l:List (Int×Int)}(h:(yH l).Nodup):l.Nodup:=by
 unfold yH List.Nodup at *;rw[List.pairwise_map]at h;exact h.imp (fun aA e=>aA (by rw[e]))
theorem zOo{p:zI}{xs xb:Int}{n:Nat}(hT:qp p xs xb)(hn:n<64):(yg p xs xb n 3).Nodup:=by
 apply zHk;unfold yg;rw[zFw];intro i hi j hj ni nj;rcases i with _ | _ | _ | i
 ·omega
 ·obtain rfl:j=0:=(by omega);exact fun e=>zGa (zQW hT (i:=n / 8) (by omega) ni).1 ((zNV hT hn).resolve_left nj) e.symm
 ·rcases j with _ | _ | j
  ·exact fun e=>zGa (zQE hT ni) ((zNV hT hn).resolve_left nj) e.symm
  ·exact zKg hT (i:=n / 8) (by omega) nj
  ·omega
 ·omega
theorem zK8(v0 v1:Value)(lo hi:Nat)(p:zI)(w:World)(h1:zu w lo hi v0 v1 p)(hn:p.n<=200) :
  Calls Tryz.prog 81 #[.agg #[v0,v1]] w fun e w'=>e = .returned (.int .i64 (roomN p.s p.n:Int))/\Below w.heap.size w w':=by
 have Hp:Hid (zu w lo hi v0 v1 p):=h1;obtain⟨⟨m1,a,c,rfl,mc,g1⟩,⟨m2,a',c',rfl,gA,g2⟩⟩:=h1;unfold maxLen at m1 m2;clear g1 g2;have eA:Hid (Below w.heap.size w (w.alloc (.cells #[.slice a p.n c,.slice a' p.hn c'] 33))):=zC _ _;go_enter Tryz.func81,Tryz.ntmps81;go_wp2
 go_loopw [3,4] (fun m i wr=>∃k:Nat,k<=p.n/\i = .int .i64 k/\m = .int .i64 (roomN p.s k:Int)/\zc wr w.heap.size (.slice a p.n c) (.slice a' p.hn c')/\Below w.heap.size w wr) (fun _ i _=>p.n - (intOf i).toNat)
 case atStart=>exact⟨0,Nat.zero_le _,rfl,rfl,zc.zRZ _ _ _ _,eA.out⟩
 case round=>
  obtain⟨k,hk,rfl,rfl,hx,hb⟩:=hrel;have Hx:Hid (zc wr w.heap.size (.slice a p.n c) (.slice a' p.hn c')):=hx;clear hx;obtain⟨⟨y0,y1⟩,⟨y2,y3⟩⟩:=Hx.out;have fA:=zFl p.s k;by_cases cA:k<p.n
  ·have dA:(k:Int)<(p.n:Int):=(by omega);obtain⟨b,off,ka,kc,rfl,hs⟩:=(Hp.out.1.zRX hb).cells cA;have Hs:Hid (zAd wr b (off+k*3) lo hi ka kc (p.s k)):=hs;obtain⟨q0,q1,q2,_⟩:=hs;go_wp2_with fail;refine(yZ _ _ _ lo hi (p.s k) _ Hs.out.slot).mono ?_;rintro e w1 ⟨⟨t,rfl,ht⟩,aA⟩;have HX:Hid (zc w1 w.heap.size (.slice (some ⟨b,off,none⟩) p.n c) (.slice a' p.hn c')):=Hx.out.zRX aA;have bA:=zA hb aA;clear aA q0 q1 q2 y0 y1 y2 y3 Hs Hx;by_cases hf:qE (p.s k)
   ·obtain rfl:t=true:=ht.2 hf;have HF:Hid (qE (p.s k)):=hf;clear ht hf;go_wp2;go_roundw
    case rel=>exact⟨k+1,by omega,by go_num,congrArg (Value.int .i64) (by rw[zBu HF.out];omega),HX.out,bA⟩
    case measure=>simp[intOf];omega
   ·obtain rfl:t=false:=zQ ht hf;have HF:Hid (¬qE (p.s k)):=hf;clear ht hf;go_wp2;go_roundw
    case rel=>exact⟨k+1,by omega,by go_num,congrArg (Value.int .i64) (by rw[zCD HF.out]),HX.out,bA⟩
    case measure=>simp[intOf];omega
  ·obtain rfl:k=p.n:=(by omega);go_wp2;go_ret;exact⟨rfl,hb⟩
end Go.Proofs.YtmgeglgboadfiaaGreatDoor
