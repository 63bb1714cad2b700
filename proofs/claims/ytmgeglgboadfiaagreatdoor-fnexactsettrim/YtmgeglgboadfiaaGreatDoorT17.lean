/- What spec.l02Born, spec.l02Old, spec.l02Some and impl.bornLast answer. -/
import Derived.Test.YtmgeglgboadfiaaGreatDoorT16
set_option linter.unusedVariables false
set_option maxRecDepth 20000
set_option maxHeartbeats 4000000
namespace Go.Proofs.YtmgeglgboadfiaaGreatDoor
open Go.RowKit
def zAa(rb zRU:Int):Prop:=qw zRU/\rb<=zRU
theorem zKh(xs xb zRU:Int)(w:World):Calls Tryz.prog 98 #[.agg #[.int .i64 xs,.int .i64 xb],.int .i64 zRU] w fun e w'=>zG (zAa xb zRU) e/\Below w.heap.size w w':=by
 have aA:=zC w (.cells #[.int .i64 xs,.int .i64 xb] 61);by_cases h3:qw zRU
 ·have H3:=zE h3;clear h3;by_cases h:xb<=zRU
  ·go_enter Tryz.func98,Tryz.ntmps98;go_wp2_with (first | (go_at_call 156;refine(qM zRU _).mono ?_;rintro e w1 ⟨⟨t,rfl,ht⟩,rfl⟩;obtain rfl:t=true:=ht.2 H3.out;clear ht) | fail);go_wp2;go_ret;exact⟨⟨_,rfl,by simp[zAa,H3.out,h]⟩,aA⟩
  ·go_enter Tryz.func98,Tryz.ntmps98;go_wp2_with (first | (go_at_call 156;refine(qM zRU _).mono ?_;rintro e w1 ⟨⟨t,rfl,ht⟩,rfl⟩;obtain rfl:t=true:=ht.2 H3.out;clear ht) | fail);go_wp2;go_ret;exact⟨⟨_,rfl,by first | (simp[zAa,H3.out];done) | (simp[zAa,H3.out];omega)⟩,aA⟩
 ·have H3:=zE h3;clear h3;go_enter Tryz.func98,Tryz.ntmps98;go_wp2_with (first | (go_at_call 156;refine(qM zRU _).mono ?_;rintro e w1 ⟨⟨t,rfl,ht⟩,rfl⟩;obtain rfl:t=false:=zQ ht H3.out;clear ht) | fail);go_wp2;go_ret;exact⟨zG.no (fun hx=>H3.out hx.1),aA⟩
theorem zPr{p:zJ}{xs xb zRU:Int}(h:yk p xs xb):((∀i,i<(zR p xs xb).length->¬zRU<zh (zR p xs xb) i)/\qw zRU)↔zAa xb zRU:=by
 constructor
 ·rintro⟨h1,h2⟩;refine⟨h2,?_⟩;by_cases hz:Nil xs xb
  ·rw[hz.2];have:=h2.1;omega
  ·have e:zR p xs xb=(xs,xb) :: zAv p (p.s xs.toNat) 8:=if_neg hz;have:=h1 0 (by rw[e];simp);rw[e]at this;have e2:zh ((xs,xb) :: zAv p (p.s xs.toNat) 8) 0=xb:=rfl;rw[e2]at this;omega
 ·rintro⟨h1,h2⟩;refine⟨fun i hi aA=>?_,h1⟩;by_cases hz:Nil xs xb
  ·have e:zR p xs xb = []:=if_pos hz;rw[e]at hi;simp at hi
  ·have hm:(zf (zR p xs xb) i,zh (zR p xs xb) i)∈zR p xs xb:=by
    have:(zf (zR p xs xb) i,zh (zR p xs xb) i)=(zR p xs xb)[i]:=by
     unfold zf zh;rw[List.getD_eq_getElem?_getD,List.getElem?_eq_getElem hi,Option.getD_some]
    rw[this];exact List.getElem_mem hi
   have:=(zCy h.1 (h.2.resolve_left hz).1.1 _ hm).2;have e:(zf (zR p xs xb) i,zh (zR p xs xb) i).2=zh (zR p xs xb) i:=rfl;omega
theorem zL0(v0 v1:Value)(lo hi:Nat)(p:zJ)(xs xb zRU:Int)(w:World)(h1:zy w lo hi v0 v1 p)(hT:yk p xs xb) :
  Calls Tryz.prog 79 #[.agg #[v0,v1],.agg #[.int .i64 xs,.int .i64 xb],.int .i64 zRU] w fun e w'=>zG (zAa xb zRU) e/\Below w.heap.size w w':=by
 have Hp:=zE h1;have HT:=zE hT;have bA:=zE (zPr (zRU:=zRU) hT);obtain⟨a,c,a',c',rfl,rfl⟩:∃a c a' c',v0 = .slice a p.n c/\v1 = .slice a' p.hn c':=by
  obtain⟨⟨_,a,c,h1,_⟩,⟨_,a',c',h3,_⟩⟩:=h1;exact⟨a,c,a',c',h1,h3⟩
 clear h1 hT;have kA:=zBq w (.slice a p.n c) (.slice a' p.hn c') (.int .i64 xs) (.int .i64 xb) 33 61;have fA:=qP p xs xb;go_enter Tryz.func79,Tryz.ntmps79;go_wp2_with fail;generalize (w.alloc (.cells #[.slice a p.n c,.slice a' p.hn c'] 33)).alloc (.cells #[.int .i64 xs,.int .i64 xb] 61)=W at kA ⊢;obtain⟨hB,hX,eA,hz⟩:=kA;refine(yg _ _ lo hi p xs xb W (Hp.out.zRJ eA) HT.out.1 HT.out.2).mono ?_;rintro e w1 ⟨v,rfl,hr,jA⟩;obtain⟨va,vc,rfl,_⟩:=zW hr;have Hr:=zE hr;have iA:=zA eA jA;clear hr jA hB hX eA hz;generalize zR p xs xb=l at Hr bA fA ⊢;go_wp2
 go_loopw [8] (fun i wr=>∃k:Nat,k<=l.length/\i = .int .i64 k/\(∀i,i<k->¬zRU<zh l i)/\w1=wr) (fun i _=>l.length - (intOf i).toNat)
 case atStart=>exact⟨0,Nat.zero_le _,rfl,fun i hi=>absurd hi (Nat.not_lt_zero _),rfl⟩
 case round=>
  obtain⟨k,hk,rfl,cA,rfl⟩:=hrel;have dA:=zE cA;clear cA;by_cases gA:k<l.length
  ·have lA:(k:Int)<(l.length:Int):=(by omega);obtain⟨b,mA,e,_,_,_,aA⟩:=qe Hr.out (by omega);simp only[Value.slice.injEq,true_and]at e;obtain⟨rfl,rfl⟩:=e;have q2:w1.cell? ⟨b,k*2+1,none⟩=some (.int .i64 (zh l k)):=(aA _ _ (zBT l k gA).2).1;clear aA;generalize hs:zh l k=y at q2;have Hs:=zE hs;clear hs;by_cases hb:zRU<y
   ·go_wp2;go_ret;exact⟨zG.no (fun h=>by have:=(bA.out.2 h).1 k gA;rw[Hs.out]at this;omega),iA⟩
   ·go_wp2;go_roundw
    case rel=>exact⟨k+1,by omega,by go_num,zo gA dA.out (by rw[Hs.out];omega),trivial⟩
    case measure=>simp[intOf];omega
  ·obtain rfl:k=l.length:=(by omega);go_wp2_with (first | (go_at_call 145;refine(yX zRU _).mono ?_;rintro e w2 ⟨⟨t,rfl,ht⟩,rfl⟩;have Ht:=zE ht;clear ht) | fail);go_wp2;go_ret;exact⟨⟨_,rfl,Ht.out.trans ⟨fun h=>bA.out.1 ⟨dA.out,h⟩,fun h=>h.1⟩⟩,iA⟩
theorem zCj(v:Value)(n lo hi:Nat)(f g:Nat->Int)(w:World)(h1:zU w lo hi v n f g)(hn:n<=200) :
  Calls Tryz.prog 86 #[v] w fun e w'=>∃v',e = .returned v'/\zw w' w.heap.size v' (kidsUp f g n)/\Below w.heap.size w w':=by
 have Hp:=zE h1;obtain⟨m1,a,c,rfl,mc,_⟩:=id h1;clear h1;unfold maxLen at m1;obtain⟨i0,oA,kA⟩:=Option.map_eq_some_iff.1 zAz;simp only[Prod.mk.injEq]at kA;have HI:=zE (And.intro oA kA);clear oA kA;have ha:=zC w (.cells #[] 61);have L1:=zE (show zw (w.alloc (.cells #[] 61)) w.heap.size (.slice (some ⟨w.heap.size,0,none⟩) 0 0) [] from World.ownsRow_lit (e:=61) (size:=2) w #[] 0 (Nat.le_refl _) (by unfold maxLen;omega) rfl);go_enter Tryz.func86,Tryz.ntmps86;go_wp2
 go_loopw [3,4] (fun v i wr=>∃(k:Nat) (sa:Option Addr) (sc:Nat),k<=n/\i = .int .i64 k/\v = .slice sa (kidsUp f g k).length sc/\zw wr w.heap.size v (kidsUp f g k)/\Below w.heap.size w wr) (fun _ i _=>n - (intOf i).toNat)
 case atStart=>exact⟨0,_,_,Nat.zero_le _,rfl,rfl,L1.out,ha⟩
 case round=>
  obtain⟨k,sa,sc,hk,rfl,rfl,hr,hb⟩:=hrel;have Hr:=zE hr;have vA:=zAg f g k;clear hr L1 ha;by_cases sA:k<n
  ·have tA:(k:Int)<(n:Int):=(by omega);obtain⟨b,off,rfl,q0,q1⟩:=(Hp.out.zRJ hb).cellsT sA;go_wp2_with fail;refine(yf (f k) (g k) wr).mono ?_;rintro e W ⟨⟨t,rfl,ht⟩,dA⟩;have fA:=zA hb dA;have iA:=zE (Hr.out.zRJ dA);have dB:=(dA.cell (zD q0)).trans q0;have eB:=(dA.cell (zD q1)).trans q1;have cB:=fA.size;clear q0 q1 hb dA Hr;by_cases bA:Nil (f k) (g k)
   ·have jA:=zE bA;obtain rfl:t=true:=ht.2 bA;clear ht bA;have cA:=zE (show kidsUp f g (k+1)=kidsUp f g k by rw[kidsUp,show one (f k) (g k) = [] from if_pos jA.out,List.append_nil]);go_wp2;go_roundw
    case rel=>exact⟨k+1,sa,sc,by omega,by go_num,by rw[cA.out],by rw[cA.out];exact iA.out,fA⟩
    case measure=>simp[intOf];omega
   ·have jA:=zE bA;obtain rfl:t=false:=zQ ht bA;clear ht bA;have cA:=zE (show kidsUp f g (k+1)=kidsUp f g k ++ [(f k,g k)] by rw[kidsUp,show one (f k) (g k) = [(f k,g k)] from if_neg jA.out]);have lA:=zC W (.cells #[.int .i64 (f k),.int .i64 (g k)] 61);have mA:=zE (iA.out.zRJ lA);have nA:=zA fA lA;have bB:(W.alloc (.cells #[.int .i64 (f k),.int .i64 (g k)] 61)).heap.size=W.heap.size+1:=World.size_alloc _ _;have pA:=zE (World.news_of_block (heap_alloc_last W (.cells #[.int .i64 (f k),.int .i64 (g k)] 61)));clear lA iA fA;go_wp2_with (first
     | (at_builtin;refine wpList_append_lies _ rfl _ _ 62 rfl w.heap.size 61 i0 (.agg #[.int .i64 0,.int .i64 0]) 2 16 (by kernel_rfl) HI.out.1 HI.out.2.1 HI.out.2.2.1 HI.out.2.2.2 rfl (by decide) (.slice sa (kidsUp f g k).length sc) (kidsUp f g k).length (pcl (kidsUp f g k)) rfl mA.out ⟨W.heap.size,0,none⟩ 1 1 [.int .i64 (f k),.int .i64 (g k)] rfl rfl pA.out (by simp[Value.oneCell']) (by decide) (by unfold maxLen;omega) (by omega) (by omega) _ rfl ?_;intro g4 gA w4 eA aA aB rA)
     | go_in)
    go_roundw
    case rel=>exact⟨k+1,some ⟨g4,0,none⟩,gA,by omega,by go_num,by rw[cA.out,List.length_append];rfl,by rw[cA.out];exact zw.next eA,nA.grown aA nA.size (fun q hq=>(mA.out.lt hq).1)⟩
    case measure=>simp[intOf];omega
  ·obtain rfl:k=n:=(by omega);go_wp2;go_ret;exact⟨_,rfl,Hr.out,hb⟩
theorem zCw(v:Value)(n lo hi:Nat)(f g:Nat->Int)(w:World)(h1:zU w lo hi v n f g)(hn:n<=200) :
  Calls Tryz.prog 120 #[v] w fun e w'=>zG (∃i,i<n/\¬Nil (f i) (g i)) e/\Below w.heap.size w w':=by
 have Hp:=zE h1;obtain⟨m1,a,c,rfl,mc,_⟩:=id h1;clear h1;go_enter Tryz.func120,Tryz.ntmps120;go_wp2_with fail;refine(zCj _ n lo hi f g w Hp.out hn).mono ?_;rintro e w1 ⟨v',rfl,hr,hb⟩;obtain⟨va,vc,rfl,_⟩:=zW hr;have aA:=zAg f g n;clear hr;have Hm:Hid (0<(kidsUp f g n).length↔∃i,i<n/\¬Nil (f i) (g i)):=by
  constructor
  ·intro h;obtain⟨x,hx⟩:=List.exists_mem_of_length_pos h;obtain⟨i,hi,_,bA⟩:=yo.1 hx;exact⟨i,hi,bA⟩
  ·rintro⟨i,hi,bA⟩;exact List.length_pos_of_mem (yo.2 ⟨i,hi,rfl,bA⟩)
 generalize (kidsUp f g n).length=m at Hm aA ⊢;have cA:(m:Int)<=200:=by omega
 go_wp2;go_ret;exact⟨⟨_,rfl,by simpa using Hm.out⟩,hb⟩
theorem zPI{p:zJ}{xs xb:Int}{n:Nat}{b:Int}{o:zDk}(h:(zAx p xs xb n b o).code≠0):zAx p xs xb n b o=zAb (zAx p xs xb n b o).code:=by
 unfold zAx at h ⊢;split
 ·rfl
 ·split
  ·rfl
  ·rename_i h1 h2
   rw[if_neg h1,if_neg h2]at h;exact absurd rfl h
theorem zQr{p:zJ}{xs xb:Int}{n:Nat}{b:Int}{o:zDk}(h:(zAx p xs xb n b o).code=0):zAx p xs xb n b o=⟨(layS p xs xb n b o 2).zRQ,(layS p xs xb n b o 2).ps,(layS p xs xb n b o 2).pb,qf p xs xb n 3,0⟩:=by
 unfold zAx at h ⊢;split
 ·rename_i h1
  rw[if_pos h1]at h;exact absurd h h1
 ·split
  ·rename_i h1 h2
   rw[if_neg h1,if_pos h2]at h;exact absurd h h2
  ·rfl
theorem zA4{w wr:World}{R:Nat}{c:Int}(aA:w.heap.size<=R)(hb:Below w.heap.size w wr) :
  zHQ (zAb c) w (.returned (.agg #[.slice none 0 0,.slice none 0 0,.int .i64 0,.int .i64 0,.slice none 0 0,.int .i64 c])) (put6 wr R (.slice none 0 0) (.slice none 0 0) (.int .i64 0) (.int .i64 0) (.slice none 0 0) (.int .i64 c)):=by
 have t:=zF.put6 wr R (.slice none 0 0) (.slice none 0 0) (.int .i64 0) (.int .i64 0) (.slice none 0 0) (.int .i64 c);exact⟨_,_,_,w.heap.size,w.heap.size,rfl,Nat.le_refl _,by have:=hb.size;have:=t.size;omega,zHn,zw.nil _ _,fun k hk=>by simp[Value.ownBlock]at hk,hb.trans (t.zRJ (by have:=hb.size;omega) (fun k hk=>by omega))⟩
theorem zOo(w:World)(a0 a1 x0 x1:Value)(t1 t2 t3:TypeId) :
  zc (((w.alloc (.cells #[a0,a1] t1)).alloc (.cells #[x0,x1] t2)).alloc (.cells #[.slice none 0 0,.slice none 0 0,.int .i64 0,.int .i64 0,.slice none 0 0,.int .i64 0] t3)) w.heap.size a0 a1/\
  zc (((w.alloc (.cells #[a0,a1] t1)).alloc (.cells #[x0,x1] t2)).alloc (.cells #[.slice none 0 0,.slice none 0 0,.int .i64 0,.int .i64 0,.slice none 0 0,.int .i64 0] t3)) (w.heap.size+1) x0 x1/\
  zi (((w.alloc (.cells #[a0,a1] t1)).alloc (.cells #[x0,x1] t2)).alloc (.cells #[.slice none 0 0,.slice none 0 0,.int .i64 0,.int .i64 0,.slice none 0 0,.int .i64 0] t3)) (w.heap.size+1+1) (.slice none 0 0) (.slice none 0 0) (.int .i64 0) (.int .i64 0) (.slice none 0 0) (.int .i64 0)/\
  Below w.heap.size w (((w.alloc (.cells #[a0,a1] t1)).alloc (.cells #[x0,x1] t2)).alloc (.cells #[.slice none 0 0,.slice none 0 0,.int .i64 0,.int .i64 0,.slice none 0 0,.int .i64 0] t3))/\
  (((w.alloc (.cells #[a0,a1] t1)).alloc (.cells #[x0,x1] t2)).alloc (.cells #[.slice none 0 0,.slice none 0 0,.int .i64 0,.int .i64 0,.slice none 0 0,.int .i64 0] t3)).heap.size=w.heap.size+3:=by
 refine⟨((zc.zRL w a0 a1 t1).zRJ (zC _ _)).zRJ (zC _ _),?_,?_,zA (zA (zC _ _) (zC _ _)) (zC _ _),by simp⟩
 ·have:=(zc.zRL (w.alloc (.cells #[a0,a1] t1)) x0 x1 t2).zRJ (zC _ (.cells #[.slice none 0 0,.slice none 0 0,.int .i64 0,.int .i64 0,.slice none 0 0,.int .i64 0] t3));rw[World.size_alloc]at this;exact this
 ·have:=zi.zRL ((w.alloc (.cells #[a0,a1] t1)).alloc (.cells #[x0,x1] t2)) (.slice none 0 0) (.slice none 0 0) (.int .i64 0) (.int .i64 0) (.slice none 0 0) (.int .i64 0) t3;rw[World.size_alloc,World.size_alloc]at this;exact this
open Classical in
noncomputable def zAM(p:zJ)(xs xb zRV b:Int):zCA:=
 if yk p xs xb/\zAa xb b then(if zDU zRV then(if Nil (qo p xs xb zRV.toNat) (qp p xs xb zRV.toNat)then zAb 4 else zAx p xs xb zRV.toNat b ⟨p,0,0,0⟩)else zAb 8)else zAb 1
theorem zDJ{p:zJ}{xs xb zRV b:Int}(h:¬(yk p xs xb/\zAa xb b)):zAM p xs xb zRV b=zAb 1:=if_neg h
theorem zFD{p:zJ}{xs xb zRV b:Int}(h:yk p xs xb/\zAa xb b)(h2:¬zDU zRV):zAM p xs xb zRV b=zAb 8:=(if_pos h).trans (if_neg h2)
theorem zGY{p:zJ}{xs xb zRV b:Int}(h:yk p xs xb/\zAa xb b)(h2:zDU zRV)(h3:Nil (qo p xs xb zRV.toNat) (qp p xs xb zRV.toNat)):zAM p xs xb zRV b=zAb 4:=((if_pos h).trans (if_pos h2)).trans (if_pos h3)
theorem zFq{p:zJ}{xs xb zRV b:Int}(h:yk p xs xb/\zAa xb b)(h2:zDU zRV)(h3:¬Nil (qo p xs xb zRV.toNat) (qp p xs xb zRV.toNat)):zAM p xs xb zRV b=zAx p xs xb zRV.toNat b ⟨p,0,0,0⟩:=((if_pos h).trans (if_pos h2)).trans (if_neg h3)
theorem zGa(v0 v1:Value)(lo hi:Nat)(p:zJ)(xs xb zRV b:Int)(w:World)(h1:zy w lo hi v0 v1 p) :
  Calls Tryz.prog 48 #[.agg #[v0,v1],.agg #[.int .i64 xs,.int .i64 xb],.int .i64 zRV,.int .i64 b] w (zHQ (zAM p xs xb zRV b) w):=by
 have Hp:=zE h1;obtain⟨a,c,a',c',rfl,rfl⟩:=h1.form;clear h1;have cC:=zOo w (.slice a p.n c) (.slice a' p.hn c') (.int .i64 xs) (.int .i64 xb) 33 61 64;go_enter Tryz.func48,Tryz.ntmps48;go_wp2_with fail;generalize ((w.alloc (.cells #[.slice a p.n c,.slice a' p.hn c'] 33)).alloc (.cells #[.int .i64 xs,.int .i64 xb] 61)).alloc (.cells #[.slice none 0 0,.slice none 0 0,.int .i64 0,.int .i64 0,.slice none 0 0,.int .i64 0] 64)=W at cC ⊢;obtain⟨hB,hX,hR,nB,hz⟩:=cC;refine(zFy _ _ lo hi p xs xb W (Hp.out.zRJ nB)).mono ?_;rintro e w1 ⟨⟨t,rfl,ht⟩,lA⟩;have lC:=zE (hB.zRJ lA);have pB:=zE (hX.zRJ lA);have dB:=zE (hR.zRJ lA);have mB:=zA nB lA;have nC:w.heap.size+3<=w1.heap.size:=by have:=lA.size;omega
 clear hB hX hR nB lA hz;by_cases oA:yk p xs xb
 ·have sA:=zE oA;obtain rfl:t=true:=ht.2 oA;clear ht oA;obtain⟨⟨y0,y1⟩,⟨y2,y3⟩⟩:=pB.out;go_wp2_with fail;refine(zKh xs xb b w1).mono ?_;rintro e w2 ⟨⟨t,rfl,ht⟩,mA⟩;have rB:=zE (lC.out.zRJ mA);have kC:=zE (pB.out.zRJ mA);have gA:=zE (dB.out.zRJ mA);have gB:=zA mB mA;have pC:w.heap.size+3<=w2.heap.size:=(by have:=mA.size;omega);clear mA mB lC pB dB nC y0 y1 y2 y3;by_cases kA:zAa xb b
  ·have jB:=zE (And.intro sA.out kA);obtain rfl:t=true:=ht.2 kA;clear ht kA;by_cases hN:zDU zRV
   ·have fA:=zE hN;obtain⟨n,rfl⟩:=Int.eq_ofNat_of_zero_le hN.1;have tA:n<64:=(by have:=hN.2;omega);clear hN;obtain⟨⟨x0,x1⟩,⟨x2,x3⟩⟩:=rB.out;obtain⟨⟨y0,y1⟩,⟨y2,y3⟩⟩:=kC.out;go_wp2_with (first | (go_at_call 99;refine(zEQ _ _).mono ?_;rintro e w9 ⟨⟨t2,rfl,vA⟩,rfl⟩;obtain rfl:t2=true:=vA.2 fA.out;clear vA) | fail);go_wp2_with fail;refine(zNs _ lo hi p xs xb n _ (Hp.out.zRJ gB).1 sA.out tA).mono ?_;rintro e w3 ⟨o,rfl,aC,nA⟩;obtain⟨oa,oc,ho,_⟩:=zW aC;have fC:=zE aC;have gC:=zE (rB.out.zRJ nA);have eC:=zE (gA.out.zRJ nA);have jC:=zA gB nA;have oC:w.heap.size+3<=w3.heap.size:=(by have:=nA.size;omega);have lB:=nA.size;clear nA aC ho x0 x1 x2 x3 y0 y1 y2 y3 rB kC gA;have bB:=zC w3 (.cells (zAT (yJ p xs xb n 2 3 o)) 159);have HY:Hid ((w3.alloc (.cells (zAT (yJ p xs xb n 2 3 o)) 159)).heap[w3.heap.size]?=some (.cells (zAT (yJ p xs xb n 2 3 o)) 159 (0,0))):=heap_alloc_last _ _;have cB:Hid (zX (w3.alloc (.cells (zAT (yJ p xs xb n 2 3 o)) 159)) w3.heap.size 38 (.int .i64 (qo p xs xb n))/\zX (w3.alloc (.cells (zAT (yJ p xs xb n 2 3 o)) 159)) w3.heap.size 39 (.int .i64 (qp p xs xb n))):=⟨zI HY.out (by rfl),zI HY.out (by rfl)⟩;have iB:=zE (gC.out.zRJ bB);have iA:=zE (eC.out.zRJ bB);have bA:=zE (fC.out.zRJ bB);have rA:=zA jC bB;have bC:w3.heap.size<(w3.alloc (.cells (zAT (yJ p xs xb n 2 3 o)) 159)).heap.size:=(by rw[World.size_alloc];omega);clear bB gC eC fC jC;go_upto_region 6 with(first
     | (refine wpList_store_row rfl 159 (.tmp 9) (.tmp 29) rfl w3.heap.size (zAT (yJ p xs xb n 2 3 o)) rfl rfl 159 zNr (heap_alloc_last _ _) (zDD _) (by rw[zEd];rfl) (zIc _ _ _ _ _ _ bA.out.one) ?_;rw[World.setRow_alloc_new])
     | fail)
    generalize w3.alloc (.cells (zAT (yJ p xs xb n 2 3 o)) 159)=w4 at HY cB iB iA bA rA bC ⊢;generalize w3.heap.size=Y at HY cB oC bC lB ⊢;obtain⟨⟨y0,y1⟩,⟨y2,y3⟩⟩:=cB.out;obtain⟨⟨x0,x1⟩,⟨x2,x3⟩⟩:=iB.out;obtain⟨wd,dC⟩:=Option.map_eq_some_iff.1 zPc;have HU:=zE dC;clear dC;by_cases eA:Nil (qo p xs xb n) (qp p xs xb n)
    ·have fB:=zE eA;rw[eA.1]at y0;rw[eA.2]at y2;clear eA;obtain⟨⟨r0,r1⟩,⟨r2,r3⟩,⟨r4,r5⟩,⟨r6,r7⟩,⟨r8,r9⟩,⟨jA,pA⟩⟩:=iA.out
     try go_wp2
     have aA:=iA.out.put (.slice none 0 0) (.slice none 0 0) (.int .i64 0) (.int .i64 0) (.slice none 0 0) (.int .i64 4);have dA:=zA4 (R:=w.heap.size+1+1) (c:=4) (by omega) rA;rw[zGY jB.out fA.out fB.out];exact bodyPost_ret (v:=.agg #[.slice none 0 0,.slice none 0 0,.int .i64 0,.int .i64 0,.slice none 0 0,.int .i64 4]) (by simp[results,Tryz.results48,go_sem,aA.1.1,aA.2.1.1,aA.2.2.1.1,aA.2.2.2.1.1,aA.2.2.2.2.1.1,aA.2.2.2.2.2.1]) rfl dA
    ·have fB:=zE eA;rcases zAS eA with e0 | ⟨e0,e1⟩
     all_goals
      clear eA;go_wp2_with (first
       | (refine wpList_load_row rfl 159 (.tmp 9) rfl Y rfl 159 (zAT (yJ p xs xb n 2 3 o)) (0,0) _ HY.out HU.out.1 (by have:=HU.out.2;cases wd<;>exact this) (zDD _) ?_)
       | fail)
      refine(zLS _ _ lo hi p p xs xb 0 0 b n o w4 (Hp.out.zRJ rA) tA (by have:=zD5 sA.out.1;omega) (bA.out.mono (Nat.zero_le _))).mono ?_;rintro e w5 (⟨hc,rfl,cA⟩ | ⟨hc,s0,s1,rfl,iC,cA⟩)
      ·have hE:zAM p xs xb (n:Int) b=zAb (zAx p xs xb n b ⟨p,0,0,0⟩).code:=(zFq jB.out fA.out fB.out).trans (zPI hc);have HE:=zE hE;have aB:=zE (iA.out.zRJ cA);have eB:=zA rA cA;clear hc hE cA x0 x1 x2 x3 y0 y1 y2 y3 iB iA HY cB;generalize (zAx p xs xb n b ⟨p,0,0,0⟩).code=cc at HE ⊢;obtain⟨⟨r0,r1⟩,⟨r2,r3⟩,⟨r4,r5⟩,⟨r6,r7⟩,⟨r8,r9⟩,⟨jA,pA⟩⟩:=aB.out
       try go_wp2
       have aA:=aB.out.put (.slice none 0 0) (.slice none 0 0) (.int .i64 0) (.int .i64 0) (.slice none 0 0) (.int .i64 cc);have dA:=zA4 (R:=w.heap.size+1+1) (c:=cc) (by omega) eB;rw[HE.out];exact bodyPost_ret (v:=.agg #[.slice none 0 0,.slice none 0 0,.int .i64 0,.int .i64 0,.slice none 0 0,.int .i64 cc]) (by simp[results,Tryz.results48,go_sem,aA.1.1,aA.2.1.1,aA.2.2.1.1,aA.2.2.2.1.1,aA.2.2.2.2.1.1,aA.2.2.2.2.2.1]) rfl dA
      ·obtain⟨tB,sB,rfl,_⟩:=zW bA.out;have hE:zAM p xs xb (n:Int) b=⟨(layS p xs xb n b ⟨p,0,0,0⟩ 2).zRQ,(layS p xs xb n b ⟨p,0,0,0⟩ 2).ps,(layS p xs xb n b ⟨p,0,0,0⟩ 2).pb,qf p xs xb n 3,0⟩:=(zFq jB.out fA.out fB.out).trans (zQr hc);have HE:=zE hE;have aB:=zE (iA.out.zRJ cA);have oB:=zE (bA.out.zRJ cA);have vB:=zE iC;have eB:=zA rA cA;have rC:=cA.size;clear hc hE cA iC x0 x1 x2 x3 y0 y1 y2 y3 iB iA HY cB;generalize layS p xs xb n b ⟨p,0,0,0⟩ 2=od at HE vB ⊢;obtain⟨a5,c5,a6,c6,rfl,rfl⟩:=vB.out.form;obtain⟨⟨r0,r1⟩,⟨r2,r3⟩,⟨r4,r5⟩,⟨r6,r7⟩,⟨r8,r9⟩,⟨jA,pA⟩⟩:=aB.out
       try go_wp2
       have aA:=aB.out.put (.slice a5 od.zRQ.n c5) (.slice a6 od.zRQ.hn c6) (.int .i64 od.ps) (.int .i64 od.pb) (.slice tB (qf p xs xb n 3).length sB) (.int .i64 0);have kB:=zF.put6 w5 (w.heap.size+1+1) (.slice a5 od.zRQ.n c5) (.slice a6 od.zRQ.hn c6) (.int .i64 od.ps) (.int .i64 od.pb) (.slice tB (qf p xs xb n 3).length sB) (.int .i64 0);rw[HE.out];exact bodyPost_ret (v:=.agg #[.slice a5 od.zRQ.n c5,.slice a6 od.zRQ.hn c6,.int .i64 od.ps,.int .i64 od.pb,.slice tB (qf p xs xb n 3).length sB,.int .i64 0]) (by simp[results,Tryz.results48,go_sem,aA.1.1,aA.2.1.1,aA.2.2.1.1,aA.2.2.2.1.1,aA.2.2.2.2.1.1,aA.2.2.2.2.2.1]) rfl ⟨_,_,_,w4.heap.size,w5.heap.size,rfl,by omega,kB.size,vB.out.zRR kB (by intro k hk;omega),((((((oB.out.put (by omega) _).put (by omega) _).put (by omega) _).put (by omega) _).put (by omega) _).put (by omega) _).mono (by omega),fun k hk=>Or.inl (bA.out.lt hk).2,eB.trans (kB.zRJ (B:=w.heap.size) eB.size (by intro k hk;omega))⟩
   ·have fA:=zE hN;clear hN;obtain⟨⟨r0,r1⟩,⟨r2,r3⟩,⟨r4,r5⟩,⟨r6,r7⟩,⟨r8,r9⟩,⟨jA,pA⟩⟩:=gA.out;go_wp2_with (first | (go_at_call 99;refine(zEQ _ _).mono ?_;rintro e w9 ⟨⟨t2,rfl,vA⟩,rfl⟩;obtain rfl:t2=false:=zQ vA fA.out;clear vA) | fail);obtain⟨⟨r0,r1⟩,⟨r2,r3⟩,⟨r4,r5⟩,⟨r6,r7⟩,⟨r8,r9⟩,⟨jA,pA⟩⟩:=gA.out
    try go_wp2
    have aA:=gA.out.put (.slice none 0 0) (.slice none 0 0) (.int .i64 0) (.int .i64 0) (.slice none 0 0) (.int .i64 8);have dA:=zA4 (R:=w.heap.size+1+1) (c:=8) (by omega) gB;rw[zFD jB.out fA.out];exact bodyPost_ret (v:=.agg #[.slice none 0 0,.slice none 0 0,.int .i64 0,.int .i64 0,.slice none 0 0,.int .i64 8]) (by simp[results,Tryz.results48,go_sem,aA.1.1,aA.2.1.1,aA.2.2.1.1,aA.2.2.2.1.1,aA.2.2.2.2.1.1,aA.2.2.2.2.2.1]) rfl dA
  ·have mC:=zE kA;obtain rfl:t=false:=zQ ht kA;clear ht kA;obtain⟨⟨r0,r1⟩,⟨r2,r3⟩,⟨r4,r5⟩,⟨r6,r7⟩,⟨r8,r9⟩,⟨jA,pA⟩⟩:=gA.out
   try go_wp2
   have aA:=gA.out.put (.slice none 0 0) (.slice none 0 0) (.int .i64 0) (.int .i64 0) (.slice none 0 0) (.int .i64 1);have dA:=zA4 (R:=w.heap.size+1+1) (c:=1) (by omega) gB;rw[zDJ (fun h=>mC.out h.2)];exact bodyPost_ret (v:=.agg #[.slice none 0 0,.slice none 0 0,.int .i64 0,.int .i64 0,.slice none 0 0,.int .i64 1]) (by simp[results,Tryz.results48,go_sem,aA.1.1,aA.2.1.1,aA.2.2.1.1,aA.2.2.2.1.1,aA.2.2.2.2.1.1,aA.2.2.2.2.2.1]) rfl dA
 ·have sA:=zE oA;obtain rfl:t=false:=zQ ht oA;clear ht oA;obtain⟨⟨r0,r1⟩,⟨r2,r3⟩,⟨r4,r5⟩,⟨r6,r7⟩,⟨r8,r9⟩,⟨jA,pA⟩⟩:=dB.out
  try go_wp2
  have aA:=dB.out.put (.slice none 0 0) (.slice none 0 0) (.int .i64 0) (.int .i64 0) (.slice none 0 0) (.int .i64 1);have dA:=zA4 (R:=w.heap.size+1+1) (c:=1) (by omega) mB;rw[zDJ (fun h=>sA.out h.1)];exact bodyPost_ret (v:=.agg #[.slice none 0 0,.slice none 0 0,.int .i64 0,.int .i64 0,.slice none 0 0,.int .i64 1]) (by simp[results,Tryz.results48,go_sem,aA.1.1,aA.2.1.1,aA.2.2.1.1,aA.2.2.2.1.1,aA.2.2.2.2.1.1,aA.2.2.2.2.2.1]) rfl dA
theorem zIY{p:zJ}{xs xb:Int}{n:Nat}(hT:yk p xs xb)(hn:n<64):∀{L:Nat},L<3->¬Nil (qq p xs xb n L) (yR p xs xb n L)->zr p (qq p xs xb n L) (yR p xs xb n L)/\yR p xs xb n L<=xb
 | 0,_,hN=>⟨(hT.2.resolve_left hN).1.1,Int.le_refl _⟩
 | L+1,hL,hN=>by
  have aA:¬Nil (qq p xs xb n L) (yR p xs xb n L):=fun h=>hN (zEn h (by omega))
  obtain⟨h1,h2⟩:=zIY hT hn (L:=L) (by omega) aA;rw[(zDM p xs xb n (show L<2 by omega)).1,(zDM p xs xb n (show L<2 by omega)).2]at hN ⊢;unfold zB8 at hN ⊢;rw[if_neg aA,if_neg aA]at hN ⊢;obtain⟨h3,h4⟩:=zAh (qU hT.1 h1) (zIT (n:=n) (L:=L) hn) hN;refine⟨h3,?_⟩;have h5:=h1.2.2.2;have bA:zk (p.s (qq p xs xb n L).toNat) (plc n L*2+1)<=(p.s (qq p xs xb n L).toNat).zRU:=h4;omega
theorem zAi{p q:zJ}{xs xb x y b:Int}{n L:Nat}(hT:yk p xs xb)(hn:n<64)(hL:L<2)(hB:zAa xb b)(bA:∀s t,zr p s t->zr q s t)(hx:Nil x y\/(zr q x y/\y<=b)) :
  zAN q (qW (qL p xs xb n L x) (qK p xs xb n L y) b):=by
 refine⟨hB.1,Or.inr ⟨rfl,by simp[qW,Go.ByteArray.toList_eq],fun i hi=>?_⟩⟩;have aA:i<8:=hi;show zHu q b (qL p xs xb n L x i) (qK p xs xb n L y i);unfold qL qK;by_cases e:i=plc n L
 ·rw[if_pos e,if_pos e];rcases hx with h | h
  ·exact Or.inl h
  ·exact Or.inr h
 ·rw[if_neg e,if_neg e];unfold yp zAF;by_cases hN:Nil (qq p xs xb n L) (yR p xs xb n L)
  ·rw[if_pos hN,if_pos hN];exact Or.inl ⟨rfl,rfl⟩
  ·rw[if_neg hN,if_neg hN];obtain⟨h1,h2⟩:=zIY hT hn (L:=L) (by omega) hN;by_cases hk:Nil (zb (p.s (qq p xs xb n L).toNat) i) (zu (p.s (qq p xs xb n L).toNat) i)
   ·exact Or.inl hk
   ·obtain⟨h3,h4⟩:=zAh (qU hT.1 h1) aA hk;refine Or.inr ⟨bA _ _ h3,?_⟩;have h5:=h1.2.2.2;have h6:=hB.2;omega
theorem zEW{f:Nat->zL}:∀{n:Nat},roomN f n=0->∀j,j<n->¬qF (f j)
 | 0,_,j,hj=>absurd hj (Nat.not_lt_zero _)
 | n+1,h,j,hj=>by
  by_cases hf:qF (f n)
  ·rw[zGP hf]at h;omega
  ·rw[zFu hf]at h;by_cases e:j=n
   ·rw[e];exact hf
   ·exact zEW h j (by omega)
theorem zFP{f:Nat->zL}:∀{n:Nat},0<roomN f n->∃i,zBU n f i
 | 0,h=>absurd h (Nat.lt_irrefl _)
 | n+1,h=>by
  by_cases h0:0<roomN f n
  ·obtain⟨i,h1,h2,h3⟩:=zFP h0;exact⟨i,by omega,h2,h3⟩
  ·by_cases hf:qF (f n)
   ·exact⟨n,by omega,hf,zEW (by omega)⟩
   ·rw[zFu hf]at h;exact absurd h h0
theorem zFH{p:zJ}{i:Nat}{s:zL}(hi:zBU p.n p.s i)(hs:1<=s.zRU):zr (ql p i s) (i:Int) s.zRU:=
 ⟨hs,by omega,by have:=hi.1;show(i:Int)<(p.n:Int);omega,by rw[Int.toNat_natCast,zD3]⟩
theorem zIZ{l:List (Int×Int)}{x:Int}:x∈yK l↔∃y,(x,y)∈l:=by
 unfold yK;rw[List.mem_map];constructor
 ·rintro⟨⟨a,b⟩,h,rfl⟩;exact⟨b,h⟩
 ·rintro⟨y,h⟩;exact⟨(x,y),h,rfl⟩
theorem zE6{xs xb x:Int}:x∈yK (one xs xb)↔x=xs/\¬Nil xs xb:=by
 rw[zIZ];constructor
 ·rintro⟨y,h⟩;obtain⟨e,hn⟩:=zKk.1 h;simp only[Prod.mk.injEq]at e;exact⟨e.1,hn⟩
 ·rintro⟨rfl,hn⟩;exact⟨xb,zKk.2 ⟨rfl,hn⟩⟩
theorem zD7{ks kb:Nat->Int}{k:Nat}{x:Int}:x∈yK (kidsUp ks kb k)↔∃i,i<k/\x=ks i/\¬Nil (ks i) (kb i):=by
 rw[zIZ];constructor
 ·rintro⟨y,h⟩;obtain⟨i,hi,e,hn⟩:=yo.1 h;simp only[Prod.mk.injEq]at e;exact⟨i,hi,e.1,hn⟩
 ·rintro⟨i,hi,rfl,hn⟩;exact⟨kb i,yo.2 ⟨i,hi,rfl,hn⟩⟩
theorem zN1(xs xb:Int):(yK (one xs xb)).Nodup:=by
 unfold one yK;split<;>simp
theorem zFa{ks kb:Nat->Int}:∀{k:Nat},(yK (kidsUp ks kb k)).Nodup↔∀i,i<k->∀j,j<i->¬Nil (ks i) (kb i)->¬Nil (ks j) (kb j)->ks j≠ks i
 | 0=>by simp[kidsUp,yK]
 | k+1=>by
  rw[kidsUp,zA0,List.nodup_append,zFa (k:=k)];constructor
  ·rintro⟨h1,_,h2⟩ i hi j hj ni nj;by_cases e:i=k
   ·subst e;exact h2 _ (zD7.2 ⟨j,hj,rfl,nj⟩) _ (zE6.2 ⟨rfl,ni⟩)
   ·exact h1 i (by omega) j hj ni nj
  ·intro h;refine⟨fun i hi j hj=>h i (by omega) j hj,zN1 _ _,fun a ha b hb=>?_⟩;obtain⟨j,hj,rfl,nj⟩:=zD7.1 ha;obtain⟨rfl,nk⟩:=zE6.1 hb;exact h k (Nat.lt_succ_self k) j hj nk nj
theorem zGC{p:zJ}{x xb y yb:Int}(h:zAy p x xb)(h':zEE p y yb):x≠y:=fun e=>by
 subst e;have:=h.2.1;have:=h'.2.1;omega
theorem zOc{p:zJ}{rs:Int}(hT:zQU p (p.s rs.toNat)){i:Nat}(hi:i<8)(hn:¬Nil (zb (p.s rs.toNat) i) (zu (p.s rs.toNat) i)):zb (p.s rs.toNat) i≠rs:=fun e=>by
 have h1:=(hT.1 i hi).resolve_left hn;rw[e]at h1;obtain⟨j,hj,nj⟩:=hT.2;have h2:=((hT.1 j hj).resolve_left nj).1;have h3:=(h1.2.1 j hj).resolve_left nj;exact zGC h2 h3 rfl
structure Ext (p q:zJ):Prop where
 n:q.n=p.n
 hn:q.hn=p.hn
 h:q.h=p.h
 s:∀j,¬qF (p.s j)->q.s j=p.s j
theorem Ext.refl(p:zJ):Ext p p:=⟨rfl,rfl,rfl,fun _ _=>rfl⟩
theorem Ext.trans{p q r:zJ}(h:Ext p q)(k:Ext q r):Ext p r:=⟨k.n.trans h.n,k.hn.trans h.hn,k.h.trans h.h,fun j hj=>(k.s j (by rw[h.s j hj];exact hj)).trans (h.s j hj)⟩
theorem Ext.set{p:zJ}{i:Nat}(hi:qF (p.s i))(s:zL):Ext p (ql p i s):=⟨rfl,rfl,rfl,fun j hj=>zEf p s (fun e=>hj (e▸hi))⟩
theorem zHC{p:zJ}{xs xb:Int}(h:zr p xs xb):¬qF (p.s xs.toNat):=fun hf=>by
 have:=hf.1;have:=h.1;have:=h.2.2.2;omega
theorem Ext.at{p q:zJ}(h:Ext p q){xs xb:Int}(hp:zr p xs xb):q.s xs.toNat=p.s xs.toNat:=h.s _ (zHC hp)
theorem Ext.points{p q:zJ}(h:Ext p q){xs xb:Int}(hp:zr p xs xb):zr q xs xb:=⟨hp.1,hp.2.1,by rw[h.n];exact hp.2.2.1,by rw[h.at hp];exact hp.2.2.2⟩
theorem Ext.has{p q:zJ}(h:Ext p q)(x:Int):Has q.hn q.h x↔Has p.hn p.h x:=by rw[h.hn,h.h]
theorem Ext.node{p q:zJ}(h:Ext p q){xs xb:Int}(hp:zAy p xs xb):zAy q xs xb:=⟨h.points hp.1,by rw[h.at hp.1];exact hp.2.1,fun e=>hp.2.2 ((h.has xs).1 e)⟩
def zJG(p:zJ)(x:Int):Prop:=qF (p.s x.toNat)
structure New (p:zJ) (xs xb:Int) (n:Nat) (b:Int) (q:zJ) (ys yb ms mb gs gb:Int):Prop where
 ext:Ext p q
 right:zv q
 zRV:Nil gs gb\/(zEE q gs gb/\zJG p gs)
 node:(Nil ms mb/\yI (qL p xs xb n 1 gs) (qK p xs xb n 1 gb))\/(zAy q ms mb/\zJG p ms/\q.s ms.toNat=qW (qL p xs xb n 1 gs) (qK p xs xb n 1 gb) b/\¬yI (qL p xs xb n 1 gs) (qK p xs xb n 1 gb))
 root:(Nil ys yb/\yI (qL p xs xb n 0 ms) (qK p xs xb n 0 mb))\/(zAy q ys yb/\zJG p ys/\q.s ys.toNat=qW (qL p xs xb n 0 ms) (qK p xs xb n 0 mb) b/\¬yI (qL p xs xb n 0 ms) (qK p xs xb n 0 mb))
theorem zOh{p:zJ}{xs xb:Int}(hT:yk p xs xb){z:Int×Int}:z∈zR p xs xb↔(z=(xs,xb)/\¬Nil xs xb)\/(∃i,i<8/\z=(yp p xs xb i,zAF p xs xb i)/\¬Nil (yp p xs xb i) (zAF p xs xb i))\/∃k,k<64/\z=(qo p xs xb k,qp p xs xb k)/\¬Nil (qo p xs xb k) (qp p xs xb k):=by
 by_cases hz:Nil xs xb
 ·have e0:∀i,yp p xs xb i=0/\zAF p xs xb i=0:=fun i=>⟨if_pos hz,if_pos hz⟩
  have e1:∀k,Nil (qo p xs xb k) (qp p xs xb k):=fun k=>by
   have hn:Nil (qy p xs xb k) (yL p xs xb k):=e0 (k / 8);exact⟨if_pos hn,if_pos hn⟩
  unfold zR;rw[if_pos hz];constructor
  ·intro h;simp at h
  ·rintro(⟨_,h⟩ | ⟨i,_,_,h⟩ | ⟨k,_,_,h⟩)
   ·exact absurd hz h
   ·exact absurd (e0 i) h
   ·exact absurd (e1 k) h
 ·have e0:∀i,yp p xs xb i=zb (p.s xs.toNat) i/\zAF p xs xb i=zu (p.s xs.toNat) i:=fun i=>⟨if_neg hz,if_neg hz⟩
  unfold zR;rw[if_neg hz,List.mem_cons,zCN];constructor
  ·rintro(h | ⟨i,hi,h⟩)
   ·exact Or.inl ⟨h,hz⟩
   ·obtain⟨hn,h⟩:=zCZ.1 h;rw[<-(e0 i).1,<-(e0 i).2]at hn;rcases h with h | h
    ·exact Or.inr (Or.inl ⟨i,hi,by rw[(e0 i).1,(e0 i).2];exact h,hn⟩)
    ·obtain⟨a,ha,h,na⟩:=yo.1 h;have q1:(i*8+a) / 8=i:=(by omega);have q2:(i*8+a) % 8=a:=(by omega);have e1:qo p xs xb (i*8+a)=zb (p.s (zb (p.s xs.toNat) i).toNat) a:=by
      unfold qo qy yL;rw[q1,q2];unfold yp at hn ⊢;rw[if_neg hz]at hn ⊢;rw[if_neg hn]
     have e2:qp p xs xb (i*8+a)=zu (p.s (zb (p.s xs.toNat) i).toNat) a:=by
      have bA:=hn;rw[(e0 i).1,(e0 i).2]at bA;unfold qp qy yL;rw[q1,q2,(e0 i).1,(e0 i).2];exact if_neg bA
     exact Or.inr (Or.inr ⟨i*8+a,by omega,by rw[e1,e2];exact h,by rw[e1,e2];exact na⟩)
  ·rintro(⟨h,_⟩ | ⟨i,hi,h,hn⟩ | ⟨k,hk,h,hn⟩)
   ·exact Or.inl h
   ·rw[(e0 i).1,(e0 i).2]at h hn;exact Or.inr ⟨i,hi,zCZ.2 ⟨hn,Or.inl h⟩⟩
   ·have aA:¬Nil (qy p xs xb k) (yL p xs xb k):=fun hx=>hn ⟨if_pos hx,if_pos hx⟩
    have e1:qo p xs xb k=zb (p.s (qy p xs xb k).toNat) (k % 8):=if_neg aA;have e2:qp p xs xb k=zu (p.s (qy p xs xb k).toNat) (k % 8):=if_neg aA;rw[e1,e2]at h hn;have e3:qy p xs xb k=zb (p.s xs.toNat) (k / 8):=(e0 (k / 8)).1;have e4:yL p xs xb k=zu (p.s xs.toNat) (k / 8):=(e0 (k / 8)).2;rw[e3]at h hn;rw[e3,e4]at aA;exact Or.inr ⟨k / 8,by omega,zCZ.2 ⟨aA,Or.inr (yo.2 ⟨k % 8,by omega,h,hn⟩)⟩⟩
theorem zHO{p:zJ}{xs xb:Int}(hz:¬Nil xs xb)(i:Nat):yp p xs xb i=zb (p.s xs.toNat) i/\zAF p xs xb i=zu (p.s xs.toNat) i:=⟨if_neg hz,if_neg hz⟩
theorem zE2{p:zJ}{xs xb:Int}{i:Nat}(h:¬Nil (yp p xs xb i) (zAF p xs xb i)):¬Nil xs xb:=fun hx=>h ⟨if_pos hx,if_pos hx⟩
theorem zQI{p:zJ}{xs xb:Int}(hT:yk p xs xb){i:Nat}(hi:i<8)(h:¬Nil (yp p xs xb i) (zAF p xs xb i)):zAy p (yp p xs xb i) (zAF p xs xb i)/\zOy p (p.s (yp p xs xb i).toNat):=by
 have hz:=zE2 h;obtain⟨h1,h2,h3⟩:=hT.2.resolve_left hz;rw[(zHO hz i).1,(zHO hz i).2]at h ⊢;exact(h2.1 i hi).resolve_left h
theorem zQH{p:zJ}{xs xb:Int}(hT:yk p xs xb)(h:¬Nil xs xb):zAy p xs xb:=(hT.2.resolve_left h).1
theorem zKS{p:zJ}{xs xb:Int}(hT:yk p xs xb){i:Nat}(hi:i<8)(h:¬Nil (yp p xs xb i) (zAF p xs xb i)):yp p xs xb i≠xs:=by
 have hz:=zE2 h;obtain⟨h1,h2,h3⟩:=hT.2.resolve_left hz;rw[(zHO hz i).1]at h ⊢;rw[(zHO hz i).2]at h;exact zOc h2 hi h
theorem Ext.free{p q:zJ}(h:Ext p q){j:Nat}(hf:qF (q.s j)):qF (p.s j):=Classical.byContradiction fun hn=>hn (by rw[h.s j hn]at hf;exact hf)
theorem zQD{p:zJ}{xs xb:Int}{n:Nat}{z:Int×Int}:z∈qf p xs xb n 3↔(z=(qo p xs xb n,qp p xs xb n)/\¬Nil (qo p xs xb n) (qp p xs xb n))\/(z=(qy p xs xb n,yL p xs xb n)/\¬Nil (qy p xs xb n) (yL p xs xb n))\/(z=(xs,xb)/\¬Nil xs xb):=by
 unfold qf;rw[yo];constructor
 ·rintro⟨i,hi,h⟩;rcases i with _ | _ | _ | i
  ·exact Or.inl h
  ·exact Or.inr (Or.inl h)
  ·exact Or.inr (Or.inr h)
  ·omega
 ·rintro(h | h | h)
  ·exact⟨0,by omega,h⟩
  ·exact⟨1,by omega,h⟩
  ·exact⟨2,by omega,h⟩
theorem zMP{p:zJ}{xs xb:Int}{n:Nat}(hT:yk p xs xb)(hn:n<64){z:Int×Int}(h:z∈qf p xs xb n 3):z∈zR p xs xb:=by
 rw[zOh hT];rcases zQD.1 h with h | h | h
 ·exact Or.inr (Or.inr ⟨n,hn,h⟩)
 ·exact Or.inr (Or.inl ⟨n / 8,by omega,h⟩)
 ·exact Or.inl h
theorem zIN{l:List (Int×Int)}(h:(yK l).Nodup):l.Nodup:=by
 unfold yK List.Nodup at *;rw[List.pairwise_map]at h;exact h.imp (fun aA e=>aA (by rw[e]))
theorem zNh{p:zJ}{xs xb:Int}{n:Nat}(hT:yk p xs xb)(hn:n<64):(qf p xs xb n 3).Nodup:=by
 apply zIN;unfold qf;rw[zFa];intro i hi j hj ni nj;rcases i with _ | _ | _ | i
 ·omega
 ·obtain rfl:j=0:=(by omega);exact fun e=>zGC (zQI hT (i:=n / 8) (by omega) ni).1 ((zNK hT hn).resolve_left nj) e.symm
 ·rcases j with _ | _ | j
  ·exact fun e=>zGC (zQH hT ni) ((zNK hT hn).resolve_left nj) e.symm
  ·exact zKS hT (i:=n / 8) (by omega) nj
  ·omega
 ·omega
theorem qZ.set{w:World}{S:Nat->Prop}{a:Option Addr}{c:Nat}{v1:Value}{p:zJ}(h:qZ w S (.slice a p.n c) v1 p){i:Nat}(hi':i<p.n) :
  ∃bs off,a=some ⟨bs,off,none⟩/\S bs/\(∃x0 x1 x2,zX w bs (off+i*3) x0/\zX w bs (off+i*3+1) x1/\zX w bs (off+i*3+2) x2)/\
   ∀(s:zL) (nb:Nat) (nv:Value),zj w nb nv s.kn s.ks s.kb->s.data.size<=maxLen->(0<s.kn->¬S nb)->
    qZ (((w.setCell ⟨bs,off+i*3,none⟩ (.int .i64 s.zRU)).setCell ⟨bs,off+i*3+1,none⟩ nv).setCell ⟨bs,off+i*3+2,none⟩ (.string s.data)) (fun k=>S k\/(0<s.kn/\k=nb)) (.slice a p.n c) v1 (ql p i s):=by
 obtain⟨bs,hb,kb,kv,⟨hm,a0,c0,hv,mA,hx⟩,kA,eA,iA,gA⟩:=h;simp only[Value.slice.injEq,true_and]at hv;obtain⟨rfl,rfl⟩:=hv;have h0:0<p.n:=by omega
 obtain⟨off,ha,dA⟩:=hx h0;have cA:=gA bs (Or.inl (Or.inl ⟨h0,rfl⟩));have fA:∀j,j<p.n->0<(p.s j).kn->S (kb j):=fun j hj hk=>gA _ (Or.inl (Or.inr ⟨j,hj,hk,rfl⟩))
 have jA:0<p.hn->S hb:=fun h=>gA _ (Or.inr ⟨h,rfl⟩)
 refine⟨bs,off,ha,cA,⟨_,_,_,(dA i hi').zRU,(dA i hi').kidsv,(dA i hi').data⟩,fun s nb nv hp hs bA=>?_⟩;refine⟨bs,hb,(fun j=>if j=i then nb else kb j),(fun j=>if j=i then nv else kv j),⟨hm,a,c,rfl,mA,fun _=>⟨off,ha,fun j hj=>?_⟩⟩,fun j k hj hk nA g1 g2=>?_,?_,fun g0 hx=>?_,fun k hk=>?_⟩
 ·have aA:=dA j hj;by_cases e:j=i
  ·subst e;simp only[ql,if_true];refine⟨?_,?_,?_,?_,hs,fun hk e=>bA hk (e▸cA)⟩
   ·exact((aA.zRU.set _).zRK _ (Or.inr (by omega))).zRK _ (Or.inr (by omega))
   ·exact((aA.kidsv.zRK _ (Or.inr (by omega))).set _).zRK _ (Or.inr (by omega))
   ·exact((aA.data.zRK _ (Or.inr (by omega))).zRK _ (Or.inr (by omega))).set _
   ·refine((hp.zRR (zF.put _ _ _ _) ?_).zRR (zF.put _ _ _ _) ?_).zRR (zF.put _ _ _ _) ?_
    all_goals exact fun hk e=>bA hk (e▸cA)
  ·simp only[ql,if_neg e];refine⟨?_,?_,?_,?_,aA.zRZ,aA.zRW⟩
   ·exact((aA.zRU.zRK _ (Or.inr (by omega))).zRK _ (Or.inr (by omega))).zRK _ (Or.inr (by omega))
   ·exact((aA.kidsv.zRK _ (Or.inr (by omega))).zRK _ (Or.inr (by omega))).zRK _ (Or.inr (by omega))
   ·exact((aA.data.zRK _ (Or.inr (by omega))).zRK _ (Or.inr (by omega))).zRK _ (Or.inr (by omega))
   ·refine((aA.kids.zRR (zF.put _ _ _ _) ?_).zRR (zF.put _ _ _ _) ?_).zRR (zF.put _ _ _ _) ?_
    all_goals exact fun hk e=>aA.zRW hk e
 ·show(if j=i then nb else kb j)≠(if k=i then nb else kb k);by_cases e1:j=i
  ·by_cases e2:k=i
   ·omega
   ·rw[if_pos e1,if_neg e2];simp only[ql,if_pos e1]at g1;simp only[ql,if_neg e2]at g2;exact fun e=>bA g1 (e▸fA k hk g2)
  ·by_cases e2:k=i
   ·rw[if_neg e1,if_pos e2];simp only[ql,if_neg e1]at g1;simp only[ql,if_pos e2]at g2;exact fun e=>bA g2 (e▸fA j hj g1)
   ·rw[if_neg e1,if_neg e2];simp only[ql,if_neg e1]at g1;simp only[ql,if_neg e2]at g2;exact kA j k hj hk nA g1 g2
 ·have lA:0<p.hn->hb≠bs:=fun h e=>iA h (Or.inl ⟨h0,e⟩)
  refine((eA.zRR (zF.put _ _ _ _) ?_).zRR (zF.put _ _ _ _) ?_).zRR (zF.put _ _ _ _) ?_
  all_goals exact fun hk e=>lA hk e
 ·rcases hx with⟨_,e⟩ | ⟨j,hj,g1,e⟩
  ·exact iA g0 (Or.inl ⟨h0,e⟩)
  ·by_cases e1:j=i
   ·simp only[ql,if_pos e1]at g1 e;exact bA g1 (e▸jA g0)
   ·simp only[ql,if_neg e1]at g1 e;exact iA g0 (Or.inr ⟨j,hj,g1,e⟩)
 ·rcases hk with(⟨_,e⟩ | ⟨j,hj,g1,e⟩) | ⟨g0,e⟩
  ·exact Or.inl (e▸cA)
  ·by_cases e1:j=i
   ·simp only[ql,if_pos e1]at g1 e;exact Or.inr ⟨g1,e⟩
   ·simp only[ql,if_neg e1]at g1 e;exact Or.inl (e▸fA j hj g1)
  ·exact Or.inl (e▸jA g0)
theorem zDW(fA nb:Nat)(S:Nat->Prop)(a:Option Addr)(c:Nat)(v1 kv:Value)(p:zJ)(s:zL)(w:World)(dA:zc w fA (.slice a p.n c) v1)(hO:¬S fA)(hS:∀k,S k->k<w.heap.size)(hc:p.n<=c)(bA:qZ w S (.slice a p.n c) v1 p)(hp:zj w nb kv s.kn s.ks s.kb)
  (vA:0<s.kn->¬S nb/\nb<w.heap.size) (iB:s.data.size<=maxLen) :
  Calls Tryz.prog 84 #[.pointer (some ⟨fA,0,none⟩),.agg #[.int .i64 s.zRU,kv,.string s.data]] w fun e w'=>
   (∃i,zBU p.n p.s i/\e = .returned (.tuple #[.agg #[.int .i64 (i:Int),.int .i64 s.zRU],.bool true])/\zc w' fA (.slice a p.n c) v1/\qZ w' (fun k=>S k\/(0<s.kn/\k=nb)) (.slice a p.n c) v1 (ql p i s)/\zF S w w')\/
   ((∀j,j<p.n->¬qF (p.s j))/\e = .returned (.tuple #[.agg #[.int .i64 0,.int .i64 0],.bool false])/\Below w.heap.size w w'):=by
 have aA:=bA.own (lo:=0) (hi:=w.heap.size) (fun k hk=>⟨Nat.zero_le _,hS k hk⟩);have hm:p.n<=2 ^ 63 - 1:=aA.at.1.1;have kA:=zT aA;clear aA;have eA:=zT dA;have rA:=zT bA;have Hq:=zT hp;obtain⟨_,ka,kc,rfl,_⟩:=hp;have kB:fA<w.heap.size:=dA.1.lt;clear dA bA;have ha:=zC w (.cells #[.int .i64 s.zRU,.slice ka s.kn kc,.string s.data] 127);have cB:=zA ha (zC _ (.cells #[.int .i64 0,.int .i64 0] 61));have HS:=zT ((yT.zRL w (.int .i64 s.zRU) (.slice ka s.kn kc) (.string s.data) 127).zRJ (zC _ (.cells #[.int .i64 0,.int .i64 0] 61)));have hr:=zc.zRL (w.alloc (.cells #[.int .i64 s.zRU,.slice ka s.kn kc,.string s.data] 127)) (.int .i64 0) (.int .i64 0) 61;rw[World.size_alloc]at hr;have HR:=zT hr;clear hr ha;go_enter Tryz.func84,Tryz.ntmps84;go_wp2
 go_loopw [6] (fun i wr=>∃k:Nat,k<=p.n/\i = .int .i64 k/\(∀j,j<k->¬qF (p.s j))/\yT wr w.heap.size (.int .i64 s.zRU) (.slice ka s.kn kc) (.string s.data)/\zc wr (w.heap.size+1) (.int .i64 0) (.int .i64 0)/\Below w.heap.size w wr) (fun i _=>p.n - (intOf i).toNat)
 case atStart=>exact⟨0,Nat.zero_le _,rfl,fun j hj=>absurd hj (Nat.not_lt_zero _),HS.out,HR.out,cB⟩
 case round=>
  obtain⟨k,hk,rfl,mA,hs,hr,hb⟩:=hrel;have cA:=zT mA;have Hs:=zT hs;have Hr:=zT hr;clear mA hs hr;obtain⟨⟨x0,x1⟩,⟨x2,x3⟩⟩:=eA.out.zRJ hb;by_cases lA:k<p.n
  ·have eB:(k:Int)<(p.n:Int):=(by omega);obtain⟨b,off,nB,mB,rfl,tA⟩:=(kA.out.at.1.zRJ hb).cells lA;have Hc:=zT tA;obtain⟨q0,q1,q2,_⟩:=tA;go_wp2_with fail;refine(yx _ _ _ 0 w.heap.size (p.s k) _ Hc.out.slot).mono ?_;rintro e w1 ⟨⟨t,rfl,ht⟩,nA⟩;have gA:=zA hb nA;have sA:=zT (Hs.out.zRJ nA);have oA:=zT (Hr.out.zRJ nA);clear nA q0 q1 q2 Hc x0 x1 x2 x3 Hs Hr;by_cases hf:qF (p.s k)
   ·obtain rfl:t=true:=ht.2 hf;have HF:=zT hf;clear ht hf;obtain⟨⟨x0,x1⟩,⟨x2,x3⟩⟩:=eA.out.zRJ gA;obtain⟨⟨y0,y1⟩,⟨y2,y3⟩,⟨y4,y5⟩⟩:=sA.out;obtain⟨⟨z0,z1⟩,⟨z2,z3⟩⟩:=oA.out;obtain⟨bs,gB,he,pA,⟨q0,q1,q2,⟨r0,r1⟩,⟨r2,r3⟩,⟨r4,r5⟩⟩,iA⟩:=(rA.out.zRJ gA).set (i:=k) lA;simp only[Option.some.injEq,Addr.mk.injEq,and_true]at he;obtain⟨rfl,rfl⟩:=he;have n0:b≠fA:=fun e=>hO (e▸pA)
    have lB:b<w.heap.size:=hS b pA;have n1:b≠w.heap.size:=(by omega);have n2:b≠w.heap.size+1:=(by omega);have n3:w.heap.size+1≠w.heap.size:=(by omega);go_wp2_with fail;go_region_held3 (fun w'=>w'.cell? ⟨fA,0,none⟩=some (.slice (some ⟨b,off,none⟩) p.n c)/\w'.cell? ⟨w.heap.size,0,none⟩=some (.int .i64 s.zRU)/\w'.cell? ⟨w.heap.size,1,none⟩=some (.slice ka s.kn kc)/\w'.cell? ⟨w.heap.size,2,none⟩=some (.string s.data)) (go_keep) (fail);have tX:=((zF.put w1 b (off+k*3) (.int .i64 s.zRU)).trans (zF.put _ b (off+k*3+1) (.slice ka s.kn kc))).trans (zF.put _ b (off+k*3+2) (.string s.data));have fB:=zT (oA.out.zRR tX (by omega));have jB:=zT (iA s nb (.slice ka s.kn kc) (Hq.out.zRJ gA) iB (fun h0=>(vA h0).1));have dB:=zT ((eA.out.zRJ gA).zRR tX (by omega));have aB:=zT ((zF.zRM (S:=S) gA).trans2 tX (fun k hk _=>by
     have bB:k=b:=(by omega);exact bB▸pA))
    clear iA tX;go_wp2;have jA:=fB.out.put (.int .i64 (k:Int)) (.int .i64 s.zRU);have t2:=(zF.put (((w1.setCell ⟨b,off+k*3,none⟩ (.int .i64 s.zRU)).setCell ⟨b,off+k*3+1,none⟩ (.slice ka s.kn kc)).setCell ⟨b,off+k*3+2,none⟩ (.string s.data)) (w.heap.size+1) 0 (.int .i64 (k:Int))).trans (zF.put _ (w.heap.size+1) 1 (.int .i64 s.zRU));have oB:=t2.size;have pB:=aB.out.size;refine bodyPost_ret (v:=.tuple #[.agg #[.int .i64 (k:Int),.int .i64 s.zRU],.bool true]) (by simp[results,Tryz.results84,go_sem,jA.1.1,jA.2.1]) rfl (Or.inl ⟨k,⟨lA,HF.out,cA.out⟩,rfl,?_,?_,?_⟩)
    ·exact(dB.out.zRR t2 (by omega)).zRJ (Below.refl _ _).drew
    ·exact(jB.out.zRR t2 (fun k hk=>by
      rcases hk with hk | hk
      ·have:=hS k hk;omega
      ·have:=vA hk.1;omega)).zRJ (Below.refl _ _).drew
    ·exact(aB.out.trans2 t2 (fun k hk lA=>by omega)).trans (zF.zRM (Below.refl _ _).drew)
   ·obtain rfl:t=false:=zQ ht hf;have HF:=zT hf;clear ht hf;go_wp2;go_roundw
    case rel=>exact⟨k+1,by omega,by go_num,zo lA cA.out HF.out,sA.out,oA.out,gA⟩
    case measure=>simp[intOf];omega
  ·obtain rfl:k=p.n:=(by omega);obtain⟨⟨z0,z1⟩,⟨z2,z3⟩⟩:=Hr.out;go_wp2;have jA:=Hr.out.put (.int .i64 0) (.int .i64 0);exact bodyPost_ret (v:=.tuple #[.agg #[.int .i64 0,.int .i64 0],.bool false]) (by simp[results,Tryz.results84,go_sem,jA.1.1,jA.2.1]) rfl (Or.inr ⟨cA.out,rfl,(hb.setCell (by show _<=w.heap.size+1;omega) _).setCell (by show _<=w.heap.size+1;omega) _⟩)
theorem zFc(v0 v1:Value)(lo hi:Nat)(p:zJ)(xs xb:Int)(w:World)(h1:zy w lo hi v0 v1 p) :
  Calls Tryz.prog 78 #[.agg #[v0,v1],.agg #[.int .i64 xs,.int .i64 xb]] w fun e w'=>zG (yk p xs xb) e/\Below w.heap.size w w':=by
 have Hp:=zE h1;obtain⟨a,c,a',c',rfl,rfl⟩:∃a c a' c',v0 = .slice a p.n c/\v1 = .slice a' p.hn c':=by
  obtain⟨⟨_,a,c,h1,_⟩,⟨_,a',c',h3,_⟩⟩:=h1;exact⟨a,c,a',c',h1,h3⟩
 clear h1;have eA:=zBq w (.slice a p.n c) (.slice a' p.hn c') (.int .i64 xs) (.int .i64 xb) 33 61;go_enter Tryz.func78,Tryz.ntmps78;go_wp2_with fail;generalize (w.alloc (.cells #[.slice a p.n c,.slice a' p.hn c'] 33)).alloc (.cells #[.int .i64 xs,.int .i64 xb] 61)=W at eA ⊢;obtain⟨hB,hX,bA,hz⟩:=eA;refine(zC0 _ _ lo hi p W (Hp.out.zRJ bA)).mono ?_;rintro e w1 ⟨⟨t,rfl,ht⟩,aA⟩;have fA:=zE (hB.zRJ aA);have iA:=zE (hX.zRJ aA);have cA:=zA bA aA;clear hB hX bA aA hz;by_cases hR:zv p
 ·have HR:=zE hR;obtain rfl:t=true:=ht.2 hR;clear ht hR;obtain⟨⟨x0,x1⟩,⟨x2,x3⟩⟩:=fA.out;obtain⟨⟨y0,y1⟩,⟨y2,y3⟩⟩:=iA.out;go_wp2_with fail;refine(zCD _ _ lo hi p xs xb _ (Hp.out.zRJ cA) HR.out).mono ?_;rintro e w2 ⟨⟨t,rfl,ht⟩,dA⟩;have gA:=zA cA dA;have Ht:=zE ht;clear dA ht;go_wp2;go_ret;exact⟨⟨_,rfl,Ht.out.trans ⟨fun h=>⟨HR.out,h⟩,fun h=>h.2⟩⟩,gA⟩
 ·have HR:=zE hR;obtain rfl:t=false:=zQ ht hR;clear ht hR;go_wp2;go_ret;exact⟨zG.no fun h=>HR.out h.1,cA⟩
theorem zNT{w:World}{base g cp:Nat}{f h:Nat->Int}(hr:zw w base (.slice (some ⟨g,0,none⟩) 8 cp) (zA6 f h 8)){j:Nat}(hj:j<8)(x y:Int) :
  zj ((w.setCell ⟨g,j*2,none⟩ (.int .i64 x)).setCell ⟨g,j*2+1,none⟩ (.int .i64 y)) g (.slice (some ⟨g,0,none⟩) 8 cp) 8 (fun i=>if i=j then x else f i) (fun i=>if i=j then y else h i):=by
 obtain⟨b,cA,e,bA,_,_,aA⟩:=qe hr (by rw[yG];omega);simp only[Value.slice.injEq,Option.some.injEq,Addr.mk.injEq,and_true]at e;obtain⟨rfl,_,rfl⟩:=e;rw[yG]at bA;refine⟨by unfold maxLen;omega,_,cp,rfl,bA,fun _=>⟨0,rfl,fun i hi=>?_⟩⟩;have h1:=aA _ _ (zBT (zA6 f h 8) i (by rw[yG];exact hi)).1;have h2:=aA _ _ (zBT (zA6 f h 8) i (by rw[yG];exact hi)).2;have:=zKm f h hi;unfold zf zh at this;rw[this.1]at h1;rw[this.2]at h2;rw[Nat.zero_add];show zX _ g (i*2) (.int .i64 (if i=j then x else f i))/\zX _ g (i*2+1) (.int .i64 (if i=j then y else h i));by_cases e:i=j
 ·subst e;rw[if_pos rfl,if_pos rfl];exact⟨(h1.set _).zRK _ (Or.inr (by omega)),(h2.zRK _ (Or.inr (by omega))).set _⟩
 ·rw[if_neg e,if_neg e];exact⟨(h1.zRK _ (Or.inr (by omega))).zRK _ (Or.inr (by omega)),(h2.zRK _ (Or.inr (by omega))).zRK _ (Or.inr (by omega))⟩
theorem zJS{w:World}{base g cp:Nat}{f h:Nat->Int}(hr:zw w base (.slice (some ⟨g,0,none⟩) 8 cp) (zA6 f h 8)):base<=g/\g<w.heap.size/\8<=cp/\∀i,i<8->zX w g (i*2) (.int .i64 (f i))/\zX w g (i*2+1) (.int .i64 (h i)):=by
 obtain⟨b,dA,e,bA,hb,cA,aA⟩:=qe hr (by rw[yG];omega);simp only[Value.slice.injEq,Option.some.injEq,Addr.mk.injEq,and_true]at e;obtain⟨rfl,_,rfl⟩:=e;rw[yG]at bA;refine⟨hb,cA,bA,fun i hi=>?_⟩;have h1:=aA _ _ (zBT (zA6 f h 8) i (by rw[yG];exact hi)).1;have h2:=aA _ _ (zBT (zA6 f h 8) i (by rw[yG];exact hi)).2;have:=zKm f h hi;unfold zf zh at this;rw[this.1]at h1;rw[this.2]at h2;exact⟨h1,h2⟩
theorem zHJ(w:World)(p:zJ)(xs xb:Int)(n:Nat)(t:TypeId):zU (w.alloc (.cells #[.int .i64 (qo p xs xb n),.int .i64 (qp p xs xb n),.int .i64 (qy p xs xb n),.int .i64 (yL p xs xb n),.int .i64 xs,.int .i64 xb] t)) 0 (w.heap.size+1) (.slice (some ⟨w.heap.size,0,none⟩) 3 3) 3 (fun i=>qq p xs xb n (2 - i)) (fun i=>yR p xs xb n (2 - i)):=by
 have hb:(w.alloc (.cells #[.int .i64 (qo p xs xb n),.int .i64 (qp p xs xb n),.int .i64 (qy p xs xb n),.int .i64 (yL p xs xb n),.int .i64 xs,.int .i64 xb] t)).heap[w.heap.size]?=some (.cells #[.int .i64 (qo p xs xb n),.int .i64 (qp p xs xb n),.int .i64 (qy p xs xb n),.int .i64 (yL p xs xb n),.int .i64 xs,.int .i64 xb] t):=heap_alloc_new _ _;refine⟨by unfold maxLen;omega,_,3,rfl,Nat.le_refl _,fun _=>⟨w.heap.size,0,rfl,Nat.zero_le _,Nat.lt_succ_self _,fun i hi=>?_⟩⟩;rcases i with _ | _ | _ | i
 ·exact⟨(zI hb rfl).1,(zI hb rfl).1⟩
 ·exact⟨(zI hb rfl).1,(zI hb rfl).1⟩
 ·exact⟨(zI hb rfl).1,(zI hb rfl).1⟩
 ·omega
end Go.Proofs.YtmgeglgboadfiaaGreatDoor
