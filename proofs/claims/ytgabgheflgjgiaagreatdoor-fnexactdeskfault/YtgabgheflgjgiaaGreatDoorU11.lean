/- A part of the proof. -/
import Derived.Test.YtgabgheflgjgiaaGreatDoorU10
set_option linter.unusedVariables false
set_option maxRecDepth 20000
set_option maxHeartbeats 8000000
namespace Go.Proofs.YtgabgheflgjgiaaGreatDoor
open Go.RowKit
def zDQ(p:zI)(rs rb:Int)(s:zO)(j:Nat):List (Int×Int):=(rs,rb) :: zA5 p s j
def zCn(p:zI)(rs rb:Int)(s:zO)(j i:Nat):List (Int×Int):=zDQ p rs rb s j ++ ((zU s j,zq s j) :: kidsUp (zU (p.s (zU s j).toNat)) (zq (p.s (zU s j).toNat)) i)
theorem zNH{p:zI}{rs rb:Int}(hz:¬Nil rs rb):zY p rs rb=zDQ p rs rb (p.s rs.toNat) 8:=if_neg hz
theorem zJr{p:zI}{rs rb:Int}{s:zO}{j:Nat}(hn:¬Nil (zU s j) (zq s j)):zDQ p rs rb s (j+1)=zCn p rs rb s j 8:=by
 unfold zDQ zCn zDQ;rw[zA5,zJS hn];rfl
theorem zJs{p:zI}{rs rb:Int}{s:zO}{j:Nat}(hn:Nil (zU s j) (zq s j)):zDQ p rs rb s (j+1)=zDQ p rs rb s j:=by
 unfold zDQ;rw[zA5,show zHf p (zU s j) (zq s j) = [] from if_pos hn,List.append_nil]
theorem zGv(p:zI)(rs rb:Int)(s:zO)(j:Nat):zCn p rs rb s j 0=zDQ p rs rb s j ++ [(zU s j,zq s j)]:=rfl
theorem zLd{p:zI}{rs rb:Int}{s:zO}{j i:Nat}(hn:Nil (zU (p.s (zU s j).toNat) i) (zq (p.s (zU s j).toNat) i)):zCn p rs rb s j (i+1)=zCn p rs rb s j i:=by
 unfold zCn;rw[kidsUp,show one (zU (p.s (zU s j).toNat) i) (zq (p.s (zU s j).toNat) i) = [] from if_pos hn,List.append_nil]
theorem zLc{p:zI}{rs rb:Int}{s:zO}{j i:Nat}(hn:¬Nil (zU (p.s (zU s j).toNat) i) (zq (p.s (zU s j).toNat) i)):zCn p rs rb s j (i+1)=zCn p rs rb s j i ++ [(zU (p.s (zU s j).toNat) i,zq (p.s (zU s j).toNat) i)]:=by
 unfold zCn;rw[kidsUp,show one (zU (p.s (zU s j).toNat) i) (zq (p.s (zU s j).toNat) i) = [(zU (p.s (zU s j).toNat) i,zq (p.s (zU s j).toNat) i)] from if_neg hn,List.append_assoc];rfl
theorem zLC(p:zI)(rs rb:Int)(s:zO){j:Nat}(hj:j<=8):(zDQ p rs rb s j).length<=73:=by
 have:=zD6 p s j;simp only[zDQ,List.length_cons];omega
theorem zMp(p:zI)(rs rb:Int)(s:zO){j i:Nat}(hj:j<=8)(hi:i<=8):(zCn p rs rb s j i).length<=90:=by
 have h1:=zLC p rs rb s hj;have h2:=zAw (zU (p.s (zU s j).toNat)) (zq (p.s (zU s j).toNat)) i;simp only[zCn,List.length_append,List.length_cons];omega
theorem qH.next{w2:World}{base g cap:Nat}{l:List (Int×Int)}{x y:Int}(h:w2.ownsRow base 99 2 (.slice (some ⟨g,0,none⟩) (l.length+1) cap) (l.length+1) (pcl l ++ [.int .i64 x,.int .i64 y])):qH w2 base (.slice (some ⟨g,0,none⟩) (l.length+1) cap) (l ++ [(x,y)]):=by
 unfold qH;rw[zCL,List.length_append];exact h
theorem q8(v0 v1:Value)(lo hi:Nat)(p:zI)(xs xb:Int)(w:World)(h1:qm w lo hi v0 v1 p)(hR:zt p)(hT:qQ p xs xb) :
  Calls Tryz.prog 58 #[.agg #[v0,v1],.agg #[.int .i64 xs,.int .i64 xb]] w fun e w'=>∃v,e = .returned v/\qH w' w.heap.size v (zY p xs xb)/\Below w.heap.size w w':=by
 have Hp:=zF h1;have HR:=zF hR;have HT:=zF hT;obtain⟨a,c,a',c',rfl,rfl⟩:∃a c a' c',v0 = .slice a p.n c/\v1 = .slice a' p.hn c':=by
  obtain⟨⟨_,a,c,h1,_⟩,⟨_,a',c',h3,_⟩⟩:=h1;exact⟨a,c,a',c',h1,h3⟩
 clear h1 hR hT;have mB:=zB1 w (.slice a p.n c) (.slice a' p.hn c') (.int .i64 xs) (.int .i64 xb) 36 99;obtain⟨i0,aD,pC⟩:=Option.map_eq_some_iff.1 zCt;simp only[Prod.mk.injEq]at pC;have HI:=zF (And.intro aD pC);clear aD pC;go_enter Tryz.func58,Tryz.ntmps58;have oA:=World.ownsRow_lit (e:=99) (size:=2) (base:=w.heap.size+2) ((w.alloc (.cells #[.slice a p.n c,.slice a' p.hn c'] 36)).alloc (.cells #[.int .i64 xs,.int .i64 xb] 99)) #[] 0 (by rw[mB.2.2.2];omega) (by unfold maxLen;omega) rfl;rw[mB.2.2.2]at oA;have fD:=mB.2.1.zOp (zC _ (.cells #[] 99));obtain⟨⟨y0,y1⟩,⟨y2,y3⟩⟩:=fD;go_wp2_with fail;clear y0 y1 y2 y3;generalize (w.alloc (.cells #[.slice a p.n c,.slice a' p.hn c'] 36)).alloc (.cells #[.int .i64 xs,.int .i64 xb] 99)=W at mB oA ⊢;obtain⟨hB,hX,vC,hz⟩:=mB;have cA:=zC W (.cells #[] 99);have vB:=zF (show qH (W.alloc (.cells #[] 99)) (w.heap.size+2) (.slice (some ⟨w.heap.size+2,0,none⟩) 0 0) [] from oA);have fC:=hB.zOp cA;have iC:=hX.zOp cA;have jC:=zA vC cA;have cD:(W.alloc (.cells #[] 99)).heap.size=w.heap.size+3:=by rw[World.size_alloc,hz]
 clear oA hB hX vC cA;generalize W.alloc (.cells #[] 99)=W0 at vB fC iC jC cD ⊢;refine(yN xs xb W0).mono ?_;rintro e w1 ⟨⟨t,rfl,ht⟩,eB⟩;have sB:=zF (fC.zOp eB);have bC:=zF (iC.zOp eB);have aC:=zF (vB.out.zOp eB);have gC:=zA jC eB;have pD:w.heap.size+3<=w1.heap.size:=by have:=eB.size;omega
 clear fC iC jC eB vB cD hz;by_cases hn:Nil xs xb
 ·have HN:=zF hn;obtain rfl:t=true:=ht.2 hn;clear ht hn;go_wp2;go_ret;refine⟨_,rfl,?_,gC⟩;rw[show zY p xs xb = [] from if_pos HN.out];exact aC.out.mono (by omega)
 ·have HN:=zF hn;obtain rfl:t=false:=zP ht hn;clear ht hn;have kB:zAY p xs xb:=(HT.out.resolve_left HN.out).1;have iB:=zF (HT.out.resolve_left HN.out).2.1.1;have h8:(p.s xs.toNat).kn=8:=by rcases zCy HR.out kB.1 with h | h;(have:=kB.2.1;omega);exact h
  obtain⟨k,rfl⟩:=Int.eq_ofNat_of_zero_le kB.1.2.1;have hk:k<p.n:=(by have:=kB.1.2.2.1;omega);have rD:(k:Int)<(p.n:Int):=(by omega);rw[Int.toNat_natCast]at h8 iB;have H8:=zF h8;clear kB;obtain⟨b,off,ka,kc,rfl,mC⟩:=Hp.out.1.cells hk;have tC:Hid (zp w lo hi (.slice ka 8 kc) 8 (p.s k).ks (p.s k).kb):=(by have:=mC.slot.2.1;rw[h8]at this;exact this);have dC:=zF mC;clear mC h8;obtain⟨⟨x0,x1⟩,⟨x2,x3⟩⟩:=sB.out;obtain⟨⟨y0,y1⟩,⟨y2,y3⟩⟩:=bC.out;have cA:=zC w1 (.cells #[.int .i64 (k:Int),.int .i64 xb] 99);have fA:=zF (aC.out.zOp cA);have vA:=zF (sB.out.zOp cA);have sC:=zF (bC.out.zOp cA);have lA:=zA gC cA;have oB:(w1.alloc (.cells #[.int .i64 (k:Int),.int .i64 xb] 99)).heap.size=w1.heap.size+1:=World.size_alloc _ _;have aB:=zF (World.news_of_block (heap_alloc_last w1 (.cells #[.int .i64 (k:Int),.int .i64 xb] 99)));clear cA aC sB bC gC;go_wp2_with (first
   | (at_builtin;refine wpList_append_lies _ rfl _ _ 100 rfl (w.heap.size+2) 99 i0 (.agg #[.int .i64 0,.int .i64 0]) 2 16 (by kernel_rfl) HI.out.1 HI.out.2.1 HI.out.2.2.1 HI.out.2.2.2 rfl (by decide) (.slice (some ⟨w.heap.size+2,0,none⟩) 0 0) 0 [] rfl fA.out ⟨w1.heap.size,0,none⟩ 1 1 [.int .i64 (k:Int),.int .i64 xb] rfl rfl aB.out (by simp[Value.oneCell']) (by decide) (by unfold maxLen;omega) (by omega) (by omega) _ rfl ?_;intro g4 eA w4 bA aA mA pA;have rA:Below w.heap.size w w4:=lA.grown aA lA.size (fun q hq=>(by have:=(fA.out.lt hq).1;omega));have sA:=zF (vA.out.grownT aA (fun q hq=>by have:=(fA.out.lt hq).1;omega));have rC:=zF (sC.out.grownT aA (fun q hq=>by have:=(fA.out.lt hq).1;omega));have z0:=sA.out.1.1;have z1:=rC.out.1.1;have z2:=(dC.out.zOp rA).c1;rw[H8.out]at z2)
   | go_in)
  have jB:=zF (show qH w4 (w.heap.size+2) (.slice (some ⟨g4,0,none⟩) 1 eA) (zDQ p k xb (p.s k) 0)from bA);have nB:w.heap.size+2<=w4.heap.size:=(by have:=aA.size;omega);clear bA aA mA pA fA vA sC lA aB oB pD
  go_loopw [5,7] (fun sv i wr=>∃(j:Nat) (sa:Option Addr) (sc:Nat),j<=8/\i = .int .i64 j/\sv = .slice sa (zDQ p k xb (p.s k) j).length sc/\qH wr (w.heap.size+2) sv (zDQ p k xb (p.s k) j)/\zk wr w.heap.size (.slice (some ⟨b,off,none⟩) p.n c) (.slice a' p.hn c')/\Below w.heap.size w wr/\w.heap.size+2<=wr.heap.size) (fun _ i _=>8 - (intOf i).toNat)
  case atStart=>exact⟨0,some ⟨g4,0,none⟩,eA,Nat.zero_le _,rfl,rfl,jB.out,sA.out,rA,nB⟩
  case round=>
   obtain⟨j,sa,sc,hj,rfl,rfl,kA,jA,nA,pB⟩:=hrel;have dA:=zF kA;have gA:=zF jA;have kD:=zLC p k xb (p.s k) hj;clear kA jA jB sA rC rA z0 z1 z2 x0 x1 x2 x3 y0 y1 y2 y3 nB;by_cases fB:j<8
   ·have mD:(j:Int)<8:=(by omega);obtain⟨tb,sD,rfl,q0,q1⟩:=(tC.out.zOp nA).cellsT fB;rw[<-zCa H8.out fB]at q0;rw[<-zDz H8.out fB]at q1;go_wp2_with fail;refine(yN (zU (p.s k) j) (zq (p.s k) j) wr).mono ?_;rintro e W ⟨⟨t,rfl,ht⟩,hb⟩;have cB:=zA nA hb;have tA:=zF (gA.out.zOp hb);have bB:=zF (dA.out.zOp hb);have oC:w.heap.size+2<=W.heap.size:=(by have:=hb.size;omega);have dD:=(hb.cell (zD q0)).trans q0;have eD:=(hb.cell (zD q1)).trans q1;clear q0 q1 nA hb dA gA pB;by_cases iA:Nil (zU (p.s k) j) (zq (p.s k) j)
    ·have dB:=zF iA;obtain rfl:t=true:=ht.2 iA;clear ht iA;go_wp2;go_roundw
     case rel=>exact⟨j+1,sa,sc,by omega,by go_num,by rw[zJs dB.out],by rw[zJs dB.out];exact bB.out,tA.out,cB,oC⟩
     case measure=>simp[intOf];omega
    ·have dB:=zF iA;obtain rfl:t=false:=zP ht iA;clear ht iA;have lB:zAY p (zU (p.s k) j) (zq (p.s k) j):=by
      rcases iB.out j fB with h | h
      ·exact absurd h dB.out
      ·exact h.1
     obtain⟨m,hm⟩:=Int.eq_ofNat_of_zero_le lB.1.2.1;have nD:m<p.n:=(by have:=lB.1.2.2.1;omega);have oD:(m:Int)<(p.n:Int):=(by omega);have lC:(zU (p.s k) j).toNat=m:=(by rw[hm];rfl);have eC:(p.s m).kn=8:=by
      have h0:=lB.2.1;have h1:=zCy HR.out lB.1;rw[lC]at h0 h1;rcases h1 with h | h
      ·omega
      ·exact h
     have rB:=zF eC;obtain⟨_,_,ua,uc,ha,nC⟩:=Hp.out.1.cells nD;simp only[Option.some.injEq,Addr.mk.injEq,and_true]at ha;obtain⟨rfl,rfl⟩:=ha;have iD:Hid (zp w lo hi (.slice ua 8 uc) 8 (p.s m).ks (p.s m).kb):=(by have:=nC.slot.2.1;rw[eC]at this;exact this);have gD:=zF nC;have Hm:=zF hm;have cC:=zF lC;have cA:=zC W (.cells #[.int .i64 (zU (p.s k) j),.int .i64 (zq (p.s k) j)] 99);have fA:=zF (bB.out.zOp cA);have vA:=zF (tA.out.zOp cA);have lA:=zA cB cA;have oB:(W.alloc (.cells #[.int .i64 (zU (p.s k) j),.int .i64 (zq (p.s k) j)] 99)).heap.size=W.heap.size+1:=World.size_alloc _ _;have aB:=zF (World.news_of_block (heap_alloc_last W (.cells #[.int .i64 (zU (p.s k) j),.int .i64 (zq (p.s k) j)] 99)));clear nC eC hm lC cA bB tA cB lB;go_wp2_with (first
      | (at_builtin;refine wpList_append_lies _ rfl _ _ 100 rfl (w.heap.size+2) 99 i0 (.agg #[.int .i64 0,.int .i64 0]) 2 16 (by kernel_rfl) HI.out.1 HI.out.2.1 HI.out.2.2.1 HI.out.2.2.2 rfl (by decide) (.slice sa (zDQ p k xb (p.s k) j).length sc) (zDQ p k xb (p.s k) j).length (pcl (zDQ p k xb (p.s k) j)) rfl fA.out ⟨W.heap.size,0,none⟩ 1 1 [.int .i64 (zU (p.s k) j),.int .i64 (zq (p.s k) j)] rfl rfl aB.out (by simp[Value.oneCell']) (by decide) (by unfold maxLen;omega) (by omega) (by omega) _ rfl ?_;intro g4 eA w4 bA aA mA pA)
      | fail)
     have jB:Hid (qH w4 (w.heap.size+2) (.slice (some ⟨g4,0,none⟩) ((zDQ p k xb (p.s k) j).length+1) eA) (zCn p k xb (p.s k) j 0)):=by
      rw[zGv];exact qH.next bA
     have rA:Below w.heap.size w w4:=lA.grown aA lA.size (fun q hq=>by have:=(fA.out.lt hq).1;omega);have sA:=zF (vA.out.grownT aA (fun q hq=>by have:=(fA.out.lt hq).1;omega));have nB:w.heap.size+2<=w4.heap.size:=(by have:=aA.size;omega);clear bA aA mA pA fA vA lA aB dD eD oB;obtain⟨_,_,ha,q0,q1⟩:=(tC.out.zOp rA).cellsT fB;simp only[Option.some.injEq,Addr.mk.injEq,and_true]at ha;obtain⟨rfl,rfl⟩:=ha;rw[<-zCa H8.out fB,Hm.out]at q0;obtain⟨r0,r1,r2,_⟩:=gD.out.zOp rA;rw[rB.out]at r1;obtain⟨⟨x0,x1⟩,⟨x2,x3⟩⟩:=sA.out
     go_quiet (fail)
     go_wp2
     go_loopw [5,9] (fun sv i wr=>∃(i':Nat) (sa:Option Addr) (sc:Nat),i'<=8/\i = .int .i64 i'/\sv = .slice sa (zCn p k xb (p.s k) j i').length sc/\qH wr (w.heap.size+2) sv (zCn p k xb (p.s k) j i')/\zk wr w.heap.size (.slice (some ⟨b,off,none⟩) p.n c) (.slice a' p.hn c')/\Below w.heap.size w wr/\w.heap.size+2<=wr.heap.size) (fun _ i _=>8 - (intOf i).toNat)
     case atStart=>exact⟨0,some ⟨g4,0,none⟩,eA,Nat.zero_le _,rfl,by rw[zGv,List.length_append];rfl,jB.out.zOp (zV (Below.refl _ _) _),sA.out.zOp (zV (Below.refl _ _) _),zV rA _,nB⟩
     case round=>
      obtain⟨i,sa,sc,jD,rfl,rfl,kA,jA,nA,pB⟩:=hrel;have dA:=zF kA;have gA:=zF jA;have bD:=zMp p k xb (p.s k) (show j<=8 by omega) jD;clear kA jA jB sA rA x0 x1 x2 x3 q0 q1 r0 r1 r2 nB;by_cases kC:i<8
      ·have lD:(i:Int)<8:=(by omega);obtain⟨ub,tD,rfl,q0,q1⟩:=(iD.out.zOp nA).cellsT kC;rw[<-zCa rB.out kC]at q0;rw[<-zDz rB.out kC]at q1;go_wp2_with fail;refine(yN (zU (p.s m) i) (zq (p.s m) i) wr).mono ?_;rintro e W ⟨⟨t,rfl,ht⟩,hb⟩;have cB:=zA nA hb;have tA:=zF (gA.out.zOp hb);have bB:=zF (dA.out.zOp hb);have oC:w.heap.size+2<=W.heap.size:=(by have:=hb.size;omega);have dD:=(hb.cell (zD q0)).trans q0;have eD:=(hb.cell (zD q1)).trans q1;clear q0 q1 nA hb dA gA pB;by_cases iA:Nil (zU (p.s m) i) (zq (p.s m) i)
       ·have tB:=zF iA;obtain rfl:t=true:=ht.2 iA;clear ht iA;have es:zCn p k xb (p.s k) j (i+1)=zCn p k xb (p.s k) j i:=zLd (by rw[cC.out];exact tB.out);have gB:=zF es;clear es;go_wp2;go_roundw
        case rel=>exact⟨i+1,sa,sc,by omega,by go_num,by rw[gB.out],by rw[gB.out];exact bB.out,tA.out,cB,oC⟩
        case measure=>simp[intOf];omega
       ·have tB:=zF iA;obtain rfl:t=false:=zP ht iA;clear ht iA;have es:zCn p k xb (p.s k) j (i+1)=zCn p k xb (p.s k) j i ++ [(zU (p.s m) i,zq (p.s m) i)]:=(by have:=zLc (p:=p) (rs:=(k:Int)) (rb:=xb) (s:=p.s k) (j:=j) (i:=i) (by rw[cC.out];exact tB.out);rw[cC.out]at this;exact this);have gB:=zF es;clear es;have cA:=zC W (.cells #[.int .i64 (zU (p.s m) i),.int .i64 (zq (p.s m) i)] 99);have fA:=zF (bB.out.zOp cA);have vA:=zF (tA.out.zOp cA);have lA:=zA cB cA;have oB:(W.alloc (.cells #[.int .i64 (zU (p.s m) i),.int .i64 (zq (p.s m) i)] 99)).heap.size=W.heap.size+1:=World.size_alloc _ _;have aB:=zF (World.news_of_block (heap_alloc_last W (.cells #[.int .i64 (zU (p.s m) i),.int .i64 (zq (p.s m) i)] 99)));clear cA bB tA cB;go_wp2_with (first
         | (at_builtin;refine wpList_append_lies _ rfl _ _ 100 rfl (w.heap.size+2) 99 i0 (.agg #[.int .i64 0,.int .i64 0]) 2 16 (by kernel_rfl) HI.out.1 HI.out.2.1 HI.out.2.2.1 HI.out.2.2.2 rfl (by decide) (.slice sa (zCn p k xb (p.s k) j i).length sc) (zCn p k xb (p.s k) j i).length (pcl (zCn p k xb (p.s k) j i)) rfl fA.out ⟨W.heap.size,0,none⟩ 1 1 [.int .i64 (zU (p.s m) i),.int .i64 (zq (p.s m) i)] rfl rfl aB.out (by simp[Value.oneCell']) (by decide) (by unfold maxLen;omega) (by omega) (by omega) _ rfl ?_;intro g4 eA w4 bA aA mA pA)
         | go_in)
        go_roundw
        case rel=>exact⟨i+1,some ⟨g4,0,none⟩,eA,by omega,by go_num,by rw[gB.out,List.length_append];rfl,by rw[gB.out];exact qH.next bA,vA.out.grownT aA (fun q hq=>by have:=(fA.out.lt hq).1;omega),lA.grown aA lA.size (fun q hq=>by have:=(fA.out.lt hq).1;omega),by have:=aA.size;omega⟩
        case measure=>simp[intOf];omega
      ·obtain rfl:i=8:=(by omega);go_wp2;go_roundw
       case rel=>exact⟨j+1,sa,sc,by omega,by go_num,by rw[zJr dB.out],by rw[zJr dB.out];exact dA.out,gA.out,nA,pB⟩
       case measure=>simp[intOf];omega
   ·obtain rfl:j=8:=(by omega);go_wp2;go_ret;exact⟨_,rfl,by rw[zNH HN.out];exact dA.out.mono (by omega),nA⟩
open Classical in
noncomputable def roomN(f:Nat->zO):Nat->Nat
 | 0=>0
 | k+1=>roomN f k+(if qJ (f k)then 1 else 0)
theorem zB5{f:Nat->zO}{k:Nat}(h:qJ (f k)):roomN f (k+1)=roomN f k+1:=by simp[roomN,h]
theorem zCM{f:Nat->zO}{k:Nat}(h:¬qJ (f k)):roomN f (k+1)=roomN f k:=by simp[roomN,h]
theorem zG4(f:Nat->zO):∀k,roomN f k<=k
 | 0=>Nat.le_refl _
 | k+1=>by
  have:=zG4 f k;by_cases h:qJ (f k)
  ·rw[zB5 h];omega
  ·rw[zCM h];omega
open Classical in
noncomputable def zG5(p:zI):Int:=if zt p then(roomN p.s p.n:Int)else 0
structure zGR where
 zO0:Int
 time:Int
 rs:Int
 rb:Int
 dn:Nat
 ds:Nat->Int
 db:Nat->Int
def zOX(s:zd):zGR:=⟨s.zO0,s.time,s.rs,s.rb,s.dn,s.ds,s.db⟩
def zOY(t:Int)(s:zu):zGR:=⟨s.zO0,t,s.rs,s.rb,s.dn,s.ds,s.db⟩
def zc(W:zH)(i:Nat):zGR:=if i<W.pn then zOX (W.zOw i)else zOY W.time (W.zOy (i - W.pn))
def qf(W:zH):Nat:=W.pn+W.sn
theorem qZ{W:zH}{i:Nat}(h:i<W.pn):zc W i=zOX (W.zOw i):=if_pos h
theorem yk(W:zH)(i:Nat):zc W (W.pn+i)=zOY W.time (W.zOy i):=by
 unfold zc;rw[if_neg (by omega),show W.pn+i - W.pn=i by omega]
def qu:zd:=⟨0,ByteArray.empty,ByteArray.empty,0,0,0,0,0,fun _=>0,fun _=>0⟩
open Classical in
noncomputable def zN(W:zH)(x:Int):zd:=if h:∃k,qo W x k then W.zOw h.choose else qu
theorem qX{W:zH}{x:Int}{k:Nat}(h:qo W x k):zN W x=W.zOw k:=by
 unfold zN;rw[dif_pos ⟨k,h⟩,qo.uniq (Exists.choose_spec (⟨k,h⟩:∃k,qo W x k)) h]
theorem zET{W:zH}{x:Int}(h:∀k,k<W.pn->(W.zOw k).id≠x):zN W x=qu:=by
 unfold zN;rw[dif_neg];rintro⟨k,hk⟩;exact h k hk.1 hk.2.1
theorem zIE{W:zH}{x:Int}:∀{n:Nat},n<=W.pn->(∃k,k<n/\(W.zOw k).id=x)->∃k,qo W x k
 | 0,_,⟨k,hk,_⟩=>absurd hk (Nat.not_lt_zero _)
 | n+1,hn,⟨k,hk,e⟩=>by
  by_cases h:∃j,j<n/\(W.zOw j).id=x
  ·exact zIE (by omega) h
  ·have:k=n:=by
    by_cases h':k<n
    ·exact absurd ⟨k,h',e⟩ h
    ·omega
   subst this;exact⟨k,by omega,e,fun j hj he=>h ⟨j,hj,he⟩⟩
def yf(W:zH)(m:zGR):List (Int×Int):=zY W.zOv m.rs m.rb
noncomputable def zCR(W:zH)(m:zGR):List (Int×Int):=zY W.zOv (zN W m.zO0).rs (zN W m.zO0).rb
def zCJ(l m:List (Int×Int)):List (Int×Int):=l.filter (fun x=>decide (x∉m))
def zIY(l m:List (Int×Int)):List (Int×Int):=l.filter (fun x=>decide (x∈m))
def zFk(l:List (Int×Int))(t:Int):List (Int×Int):=l.filter (fun x=>decide (t<x.2))
noncomputable def zEc(W:zH)(m:zGR):List (Int×Int):=zCJ (yf W m) (zCR W m)
noncomputable def zAp(W:zH)(m:zGR):List (Int×Int):=zFk (yf W m) (zN W m.zO0).time
def zC8(n:Nat)(f g:Nat->Int)(l:List (Int×Int)):Prop:=zNz n f g l.length (zg l) (zj l)
def zKi(now old:List (Int×Int))(t tm:Int):Prop:=∀x,x∈now->x.2<=tm/\(x∈old↔x.2<=t)
def zHn(W:zH)(m:zGR):Prop:=zC8 m.dn m.ds m.db (zCJ (zCR W m) (yf W m))/\zKi (yf W m) (zCR W m) (zN W m.zO0).time m.time
def zNx(W:zH)(m:zGR):Prop:=m.rb<=m.time/\zC8 (zAp W m).length (zg (zAp W m)) (zj (zAp W m)) (zEc W m)/\zC8 m.dn m.ds m.db (zCJ (zCR W m) (zIY (yf W m) (zCR W m)))
theorem zLS(l m:List (Int×Int)):zCJ m (zIY l m)=zCJ m l:=by
 unfold zCJ zIY;refine List.filter_congr fun x hx=>?_
 rw[decide_eq_decide];simp only[List.mem_filter,decide_eq_true_eq];exact⟨fun h h'=>h ⟨h',hx⟩,fun h h'=>h h'.1⟩
theorem yQ{l:List (Int×Int)}{i:Nat}(h:i<l.length):l.getD i (0,0)=l[i]:=by
 rw[List.getD_eq_getElem?_getD,List.getElem?_eq_getElem h,Option.getD_some]
theorem zCx{l:List (Int×Int)}{x y:Int}:PIn l.length (zg l) (zj l) x y↔(x,y)∈l:=by
 constructor
 ·rintro⟨j,hj,e1,e2⟩;unfold zg at e1;unfold zj at e2;rw[yQ hj]at e1 e2;have:l[j]=(x,y):=Prod.ext e1 e2;exact this▸List.getElem_mem hj
 ·intro h;obtain⟨j,hj,e⟩:=List.getElem_of_mem h;exact⟨j,hj,by unfold zg;rw[yQ hj,e],by unfold zj;rw[yQ hj,e]⟩
structure zAz (W:zH):Prop where
 right:zt W.zOv
 ids:∀k,k<W.pn->(W.zOw k).zO0<(W.zOw k).id
 tree:∀i,i<qf W->qQ W.zOv (zc W i).rs (zc W i).rb
 time:∀i,i<qf W->0<=(zc W i).time
theorem zBm{p:zI}{rs rb:Int}(hR:zt p)(hT:qQ p rs rb){x:Int×Int}(hx:x∈zY p rs rb):zy p x.1 x.2/\x.2<=rb/\¬Has p.hn p.h x.1:=by
 rcases(zJt hR).2 hT with hz | ⟨hP,_,hA⟩
 ·rw[zY,if_pos hz]at hx;simp at hx
 ·have:=zCg hR hP x hx;exact⟨this.1,this.2,hA.2 x hx⟩
theorem zDu{p:zI}{rs rb:Int}(hR:zt p)(hT:qQ p rs rb):(zY p rs rb).Nodup:=by
 rcases(zJt hR).2 hT with hz | ⟨hP,_,hA⟩
 ·rw[zY,if_pos hz];exact List.nodup_nil
 ·exact hA.1
theorem zAz.old{W:zH}(h:zAz W)(x:Int):qQ W.zOv (zN W x).rs (zN W x).rb:=by
 by_cases hx:∃k,qo W x k
 ·obtain⟨k,hk⟩:=hx;rw[qX hk];have:=h.tree k (by unfold qf;have:=hk.1;omega);rw[qZ hk.1]at this;exact this
 ·have:zN W x=qu:=by
   unfold zN;rw[dif_neg hx]
  rw[this];exact Or.inl ⟨rfl,rfl⟩
theorem zLj{p:zI}{x y:Int}(hR:zt p)(h:zy p x y):zMA x y:=by
 have hf:=qq hR h;have h1:=hR.1;obtain⟨a,b,c,d⟩:=h;have:=hf.1.2;exact⟨b,by omega,a,by omega⟩
theorem zFz{p:zI}(hR:zt p){l:List (Int×Int)}(h:∀x,x∈l->zy p x.1 x.2)(hn:l.Nodup)(hl:l.length<=200):zCi l.length (zg l) (zj l):=by
 have hs:=(zFU h).2 hn;refine⟨hl,fun i hi=>?_,fun i hi k hk=>?_⟩
 ·unfold zg zj;rw[yQ hi];exact zLj hR (h _ (List.getElem_mem hi))
 ·unfold zg;rw[yQ hi,yQ (show k<l.length by omega)];unfold yG List.Nodup at hs;rw[List.pairwise_map]at hs;exact List.pairwise_iff_getElem.1 hs k i (by omega) hi hk
theorem zIu{p:zI}(hR:zt p){T:List (Int×Int)}(hT:∀x,x∈T->zy p x.1 x.2)(hn:T.Nodup)(hl:T.length<=200)(P Q:Int×Int->Bool) :
  zC8 (T.filter P).length (zg (T.filter P)) (zj (T.filter P)) (T.filter Q)↔∀x,x∈T->P x=Q x:=by
 constructor
 ·rintro⟨_,_,aA,cA⟩;have h1:∀x,x∈T->P x=true->Q x=true:=fun x hx hp=>by
   have hm:x∈T.filter P:=List.mem_filter.2 ⟨hx,hp⟩;obtain⟨j,hj,e⟩:=List.getElem_of_mem hm;have:=cA j hj;rw[zCx]at this;unfold zg zj at this;rw[yQ hj,e]at this;exact(List.mem_filter.1 this).2
  have h2:(T.filter Q).filter P=T.filter P:=by
   rw[List.filter_filter];refine List.filter_congr fun x hx=>?_
   cases hp:P x
   ·rfl
   ·rw[h1 x hx hp];rfl
  have h3:((T.filter Q).filter P).length=(T.filter Q).length:=(by rw[h2,aA]);rw[List.length_filter_eq_length_iff]at h3;intro x hx;cases hq:Q x
  ·cases hp:P x
   ·rfl
   ·rw[h1 x hx hp]at hq;exact absurd hq (by simp)
  ·exact h3 x (List.mem_filter.2 ⟨hx,hq⟩)
 ·intro h;have e:T.filter P=T.filter Q:=List.filter_congr h;rw[e];have bA:zCi (T.filter Q).length (zg (T.filter Q)) (zj (T.filter Q)):=zFz hR (fun x hx=>hT x (List.mem_filter.1 hx).1) (hn.filter _) (Nat.le_trans (List.length_filter_le _ _) hl);exact⟨bA,bA,rfl,fun i hi=>⟨i,hi,rfl,rfl⟩⟩
theorem zGt{W:zH}(h:zAz W){i:Nat}(hi:i<qf W):zNx W (zc W i)↔zHn W (zc W i):=by
 generalize hm:zc W i=m;have hT:=h.tree i hi;have eA:=h.time i hi;rw[hm]at hT eA;have bA:(yf W m).length<=200:=by have:=qs W.zOv m.rs m.rb;unfold yf;omega
 have fA:∀x,x∈yf W m->zy W.zOv x.1 x.2:=fun x hx=>(zBm h.right hT hx).1
 unfold zNx zHn;rw[zLS];have key:zC8 (zAp W m).length (zg (zAp W m)) (zj (zAp W m)) (zEc W m)↔∀x,x∈yf W m->(x∈zCR W m↔x.2<=(zN W m.zO0).time):=by
  unfold zAp zEc zFk zCJ;rw[zIu h.right fA (zDu h.right hT) bA];refine⟨fun hh x hx=>?_,fun hh x hx=>?_⟩
  ·have:=hh x hx;rw[decide_eq_decide]at this;constructor
   ·intro aA;by_cases dA:(zN W m.zO0).time<x.2
    ·exact absurd aA (this.1 dA)
    ·omega
   ·intro cA;by_cases aA:x∈zCR W m
    ·exact aA
    ·have:=this.2 aA;omega
  ·rw[decide_eq_decide];have:=hh x hx;constructor
   ·intro dA aA;have:=this.1 aA;omega
   ·intro aA;by_cases cA:x.2<=(zN W m.zO0).time
    ·exact absurd (this.2 cA) aA
    ·omega
 rw[key];constructor
 ·rintro⟨h1,h2,h3⟩;exact⟨h3,fun x hx=>⟨by have:=(zBm h.right hT hx).2.1;omega,h2 x hx⟩⟩
 ·rintro⟨h1,h2⟩;refine⟨?_,fun x hx=>(h2 x hx).2,h1⟩;by_cases hz:Nil m.rs m.rb
  ·rw[hz.2];exact eA
  ·have hr:(m.rs,m.rb)∈yf W m:=(by unfold yf zY;rw[if_neg hz];simp);exact(h2 _ hr).1
theorem zL1{W:zH}{m:zGR}(hS:zHn W m):zAp W m=zEc W m:=by
 unfold zAp zEc zFk zCJ;refine List.filter_congr fun x hx=>?_
 rw[decide_eq_decide];have:=(hS.2 x hx).2;constructor
 ·intro h1 h2;have:=this.1 h2;omega
 ·intro h1;by_cases h2:x.2<=(zN W m.zO0).time
  ·exact absurd (this.2 h2) h1
  ·omega
open Classical in
noncomputable def cnt(P:Nat->Prop):Nat->Nat
 | 0=>0
 | k+1=>cnt P k+(if P k then 1 else 0)
theorem zB3{P Q:Nat->Prop}:∀{n:Nat},(∀i,i<n->(P i↔Q i))->cnt P n=cnt Q n
 | 0,_=>rfl
 | n+1,h=>by
  unfold cnt;rw[zB3 (fun i hi=>h i (by omega))];by_cases hp:P n
  ·rw[if_pos hp,if_pos ((h n (by omega)).1 hp)]
  ·rw[if_neg hp,if_neg (fun hq=>hp ((h n (by omega)).2 hq))]
theorem zML{P Q:Nat->Prop}:∀{n:Nat},(∀i,i<n->P i->Q i)->cnt P n<=cnt Q n
 | 0,_=>Nat.le_refl _
 | n+1,h=>by
  unfold cnt;have:=zML (n:=n) (fun i hi=>h i (by omega));by_cases hp:P n
  ·rw[if_pos hp,if_pos (h n (by omega) hp)];omega
  ·rw[if_neg hp];omega
theorem zGc{P Q:Nat->Prop}:∀{n:Nat},(∀i,i<n->P i->Q i)->(cnt P n=cnt Q n↔∀i,i<n->(P i↔Q i))
 | 0,_=>⟨fun _ i hi=>absurd hi (Nat.not_lt_zero _),fun _=>rfl⟩
 | n+1,h=>by
  refine⟨fun e=>?_,fun e=>zB3 e⟩;have aA:=zML (n:=n) (fun i hi=>h i (by omega));have ih:=zGc (n:=n) (fun i hi=>h i (by omega));unfold cnt at e;have hn:P n↔Q n:=by
   refine⟨h n (by omega),fun hq=>?_⟩;by_cases hp:P n
   ·exact hp
   ·rw[if_neg hp,if_pos hq]at e;omega
  have e':cnt P n=cnt Q n:=by
   by_cases hp:P n
   ·rw[if_pos hp,if_pos (hn.1 hp)]at e;omega
   ·rw[if_neg hp,if_neg (fun hq=>hp (hn.2 hq))]at e;omega
  intro i hi;by_cases e2:i=n
  ·subst e2;exact hn
  ·exact ih.1 e' i (by omega)
theorem zJ5{P Q:Nat->Prop}:∀{n:Nat},(∀i,i<n->P i->¬Q i)->cnt (fun i=>P i\/Q i) n=cnt P n+cnt Q n
 | 0,_=>rfl
 | n+1,h=>by
  unfold cnt;rw[zJ5 (fun i hi=>h i (by omega))];by_cases hp:P n
  ·rw[if_pos (Or.inl hp),if_pos hp,if_neg (h n (by omega) hp)];omega
  ·by_cases hq:Q n
   ·rw[if_pos (Or.inr hq),if_neg hp,if_pos hq];omega
   ·rw[if_neg (fun h=>h.elim hp hq),if_neg hp,if_neg hq];omega
theorem zKo(P:Nat->Prop):∀n,cnt P n+cnt (fun i=>¬P i) n=n
 | 0=>rfl
 | n+1=>by
  have:=zKo P n;unfold cnt;by_cases hp:P n
  ·rw[if_pos hp,if_neg (fun h=>h hp)];omega
  ·rw[if_neg hp,if_pos hp];omega
theorem zGd{P:Nat->Prop}:∀{n:Nat},(∀i,i<n->¬P i)->cnt P n=0
 | 0,_=>rfl
 | n+1,h=>by
  unfold cnt;rw[zGd (fun i hi=>h i (by omega)),if_neg (h n (by omega))]
theorem zKp:∀{n a:Nat},a<n->cnt (fun i=>i=a) n=1
 | 0,a,h=>absurd h (Nat.not_lt_zero _)
 | n+1,a,h=>by
  unfold cnt;by_cases e:n=a
  ·subst e;rw[if_pos rfl,zGd (fun i hi=>by omega)]
  ·rw[if_neg e,zKp (by omega)]
theorem zEt{n:Nat}:∀{l:List Nat},l.Nodup->(∀x,x∈l->x<n)->cnt (fun i=>i∈l) n=l.length
 | [],_,_=>zGd (fun i hi=>by simp)
 | a :: l,hn,hl=>by
  obtain⟨h1,h2⟩:=List.nodup_cons.1 hn;have e1:cnt (fun i=>i∈a :: l) n=cnt (fun i=>i=a\/i∈l) n:=zB3 (fun i _=>List.mem_cons);have e2:cnt (fun i=>i=a\/i∈l) n=cnt (fun i=>i=a) n+cnt (fun i=>i∈l) n:=zJ5 (fun i _ (e:i=a) hi=>h1 (e▸hi));rw[e1,e2,zKp (hl a (by simp)),zEt h2 (fun x hx=>hl x (by simp[hx])),List.length_cons];omega
theorem zJD(f:Nat->zO):∀n,roomN f n=cnt (fun i=>qJ (f i)) n
 | 0=>rfl
 | n+1=>by unfold roomN cnt;rw[zJD f n]
theorem zMK{p:zI}(hR:zt p):cnt (fun i=>Has p.hn p.h i) p.n=p.hn:=by
 have h:=hR.2.2;have hl:∀x,x∈(List.range p.hn).map (fun j=>(p.h j).toNat)->x<p.n:=by
  intro x hx;obtain⟨j,hj,rfl⟩:=List.mem_map.1 hx;have:=h j (List.mem_range.1 hj);have h1:=this.1;have h2:=this.2.1;omega
 have hn:((List.range p.hn).map (fun j=>(p.h j).toNat)).Nodup:=by
  unfold List.Nodup;rw[List.pairwise_map];refine List.Pairwise.imp_of_mem ?_ (List.pairwise_lt_range);intro a b ha hb aA e;have h1:=h a (List.mem_range.1 ha);have h2:=h b (List.mem_range.1 hb);have:=h1.1;have:=h2.1;exact h2.2.2.2 ⟨a,aA,by omega⟩
 have:=zEt hn hl;rw[List.length_map,List.length_range]at this;refine Eq.trans (zB3 (fun i hi=>?_)) this;constructor
 ·rintro⟨j,hj,e⟩;exact List.mem_map.2 ⟨j,List.mem_range.2 hj,by rw[e];simp⟩
 ·intro hx;obtain⟨j,hj,e⟩:=List.mem_map.1 hx;have:=(h j (List.mem_range.1 hj)).1;exact⟨j,List.mem_range.1 hj,by omega⟩
theorem zJC{p:zI}(hR:zt p):cnt (fun i=>¬qJ (p.s i)/\¬Has p.hn p.h i) p.n+roomN p.s p.n+p.hn=p.n:=by
 have h1:=zKo (fun i=>qJ (p.s i)\/Has p.hn p.h i) p.n;have h2:cnt (fun i=>qJ (p.s i)\/Has p.hn p.h i) p.n=cnt (fun i=>qJ (p.s i)) p.n+cnt (fun i=>Has p.hn p.h i) p.n:=zJ5 (fun i hi hf=>by
  rintro⟨j,hj,e⟩;have:=(hR.2.2 j hj).2.2.1;rw[e]at this;simp only[Int.toNat_natCast]at this;exact this hf)
 rw[zMK hR,<-zJD]at h2;have h3:cnt (fun i=>¬(qJ (p.s i)\/Has p.hn p.h i)) p.n=cnt (fun i=>¬qJ (p.s i)/\¬Has p.hn p.h i) p.n:=zB3 (fun i _=>not_or);omega
def zDx(W:zH):Prop:=∀i,i<W.zOv.n->((∃m,m<qf W/\∃b,((i:Int),b)∈yf W (zc W m))↔(¬qJ (W.zOv.s i)/\¬Has W.zOv.hn W.zOv.h i))
def zFH(W:zH):Prop:=∀i,i<qf W->∀j,j<i->∀x,x∈zEc W (zc W i)->∀y,y∈zEc W (zc W j)->x.1≠y.1
noncomputable def zAI(W:zH):Nat->List (Int×Int)
 | 0=>[]
 | k+1=>zAI W k ++ zAp W (zc W k)
def zIP(W:zH):Prop:=(zAI W (qf W)).Nodup/\(zAI W (qf W)).length+roomN W.zOv.s W.zOv.n+W.zOv.hn=W.zOv.n
theorem zD0{W:zH}{x:Int×Int}:∀{k:Nat},x∈zAI W k↔∃i,i<k/\x∈zAp W (zc W i)
 | 0=>by simp[zAI]
 | k+1=>by
  unfold zAI;rw[List.mem_append,zD0];constructor
  ·rintro(⟨i,hi,h⟩ | h)
   ·exact⟨i,by omega,h⟩
   ·exact⟨k,by omega,h⟩
  ·rintro⟨i,hi,h⟩;by_cases e:i=k
   ·subst e;exact Or.inr h
   ·exact Or.inl ⟨i,by omega,h⟩
theorem zFo{W:zH}:∀{k:Nat},(∀i,i<k->(zAp W (zc W i)).Nodup)->((zAI W k).Nodup↔∀i,i<k->∀j,j<i->∀x,x∈zAp W (zc W i)->x∉zAp W (zc W j))
 | 0,_=>⟨fun _ i hi=>absurd hi (Nat.not_lt_zero _),fun _=>List.nodup_nil⟩
 | k+1,hy=>by
  unfold zAI;rw[List.nodup_append,zFo (fun i hi=>hy i (by omega))];constructor
  ·rintro⟨h1,h2,h3⟩ i hi j hj x hx aA;by_cases e:i=k
   ·subst e;exact h3 x (zD0.2 ⟨j,hj,aA⟩) x hx rfl
   ·exact h1 i (by omega) j hj x hx aA
  ·intro h;refine⟨fun i hi=>h i (by omega),hy k (by omega),fun x hx y bA e=>?_⟩;subst e;obtain⟨i,hi,hx⟩:=zD0.1 hx;exact h k (by omega) i hi x bA hx
theorem zJK{W:zH}(h:zAz W){x:Int×Int}:∀(N:Nat) (k:Nat),k<W.pn->(W.zOw k).id<N->0<=(W.zOw k).id->(∀j,j<W.pn->0<=(W.zOw j).id)->x∈yf W (zc W k)->∃i,i<qf W/\x∈zEc W (zc W i)
 | 0,k,hk,h1,h2,_,_=>by omega
 | N+1,k,hk,h1,h2,h0,hx=>by
  by_cases ho:x∈zCR W (zc W k)
  ·have aA:∃j,qo W (zc W k).zO0 j:=by
    refine Classical.byContradiction fun bA=>?_
    have:zN W (zc W k).zO0=qu:=(by unfold zN;rw[dif_neg bA]);unfold zCR at ho;rw[this,zY,if_pos ⟨rfl,rfl⟩]at ho;simp at ho
   obtain⟨j,hj⟩:=aA;unfold zCR at ho;rw[qX hj]at ho;have e1:(zc W k).zO0=(W.zOw k).zO0:=(by rw[qZ hk];rfl);have:=h.ids k hk;have:=hj.2.1;exact zJK h N j hj.1 (by omega) (h0 j hj.1) h0 (by rw[qZ hj.1];exact ho)
  ·exact⟨k,by unfold qf;omega,List.mem_filter.2 ⟨hx,by simpa using ho⟩⟩
theorem zMa{W:zH}(h:zAz W)(h0:∀j,j<W.pn->0<=(W.zOw j).id){x:Int×Int}{m:Nat}(hm:m<qf W)(hx:x∈yf W (zc W m)):∃i,i<qf W/\x∈zEc W (zc W i):=by
 by_cases ho:x∈zCR W (zc W m)
 ·have aA:∃j,qo W (zc W m).zO0 j:=by
   refine Classical.byContradiction fun bA=>?_
   have:zN W (zc W m).zO0=qu:=(by unfold zN;rw[dif_neg bA]);unfold zCR at ho;rw[this,zY,if_pos ⟨rfl,rfl⟩]at ho;simp at ho
  obtain⟨j,hj⟩:=aA;unfold zCR at ho;rw[qX hj]at ho;have:=h0 j hj.1;exact zJK h ((W.zOw j).id.toNat+1) j hj.1 (by omega) (h0 j hj.1) h0 (by rw[qZ hj.1];exact ho)
 ·exact⟨m,hm,List.mem_filter.2 ⟨hx,by simpa using ho⟩⟩
theorem zHt{W:zH}(h:zAz W)(h0:∀j,j<W.pn->0<=(W.zOw j).id)(hM:∀i,i<qf W->zHn W (zc W i)):zIP W↔zDx W/\zFH W:=by
 have hy:∀i,i<qf W->zAp W (zc W i)=zEc W (zc W i):=fun i hi=>zL1 (hM i hi)
 have pA:∀i,i<qf W->(zAp W (zc W i)).Nodup:=fun i hi=>(zDu h.right (h.tree i hi)).filter _
 have lA:∀i,i<qf W->∀x,x∈zEc W (zc W i)->x∈yf W (zc W i):=fun i _ x hx=>(List.mem_filter.1 hx).1
 have gA:∀i,i<qf W->∀x,x∈yf W (zc W i)->zy W.zOv x.1 x.2/\¬Has W.zOv.hn W.zOv.h x.1:=fun i hi x hx=>⟨(zBm h.right (h.tree i hi) hx).1,(zBm h.right (h.tree i hi) hx).2.2⟩
 have fA:∀x y:Int×Int,zy W.zOv x.1 x.2->zy W.zOv y.1 y.2->x.1=y.1->x=y:=fun x y hx eA e=>by
  have a1:=hx.2.2.2;have a2:=eA.2.2.2;rw[e]at a1;exact Prod.ext e (a1.symm.trans a2)
 have hA:(zAI W (qf W)).Nodup↔zFH W:=by
  rw[zFo pA];unfold zFH;constructor
  ·intro hh i hi j hj x hx y eA e;have tA:=fA x y (gA i hi x (lA i hi x hx)).1 (gA j (by omega) y (lA j (by omega) y eA)).1 e;subst tA;exact hh i hi j hj x (by rw[hy i hi];exact hx) (by rw[hy j (by omega)];exact eA)
  ·intro hh i hi j hj x hx sA;exact hh i hi j hj x (by rw[<-hy i hi];exact hx) x (by rw[<-hy j (by omega)];exact sA) rfl
 have aA:∀x,x∈zAI W (qf W)↔∃m,m<qf W/\x∈yf W (zc W m):=fun x=>by
  rw[zD0];constructor
  ·rintro⟨i,hi,hx⟩;rw[hy i hi]at hx;exact⟨i,hi,lA i hi x hx⟩
  ·rintro⟨m,hm,hx⟩;obtain⟨i,hi,hx⟩:=zMa h h0 hm hx;exact⟨i,hi,by rw[hy i hi];exact hx⟩
 unfold zIP;rw[hA];constructor
 ·rintro⟨ha,oA⟩;refine⟨?_,ha⟩;have bA:=hA.2 ha;have dA:∀x,x∈zAI W (qf W)->zy W.zOv x.1 x.2:=fun x hx=>by
   obtain⟨m,hm,hx⟩:=(aA x).1 hx;exact(gA m hm x hx).1
  have hl:∀x,x∈(zAI W (qf W)).map (fun x=>x.1.toNat)->x<W.zOv.n:=by
   intro x hx;obtain⟨y,eA,rfl⟩:=List.mem_map.1 hx;have:=dA y eA;have h1:=this.2.1;have h2:=this.2.2.1;omega
  have nA:((zAI W (qf W)).map (fun x=>x.1.toNat)).Nodup:=by
   unfold List.Nodup;rw[List.pairwise_map];refine List.Pairwise.imp_of_mem ?_ bA;intro a b iA jA mA e;have p1:=dA a iA;have p2:=dA b jA;have:=p1.2.1;have:=p2.2.1;exact mA (fA a b p1 p2 (by omega))
  have hc:=zEt nA hl;rw[List.length_map]at hc;have hr:=zJC h.right;have cA:∀i,i<W.zOv.n->(i∈(zAI W (qf W)).map (fun x=>x.1.toNat)↔∃m,m<qf W/\∃b,((i:Int),b)∈yf W (zc W m)):=by
   intro i hi;rw[List.mem_map];constructor
   ·rintro⟨x,hx,e⟩;have:=(dA x hx).2.1;obtain⟨m,hm,hx⟩:=(aA x).1 hx;exact⟨m,hm,x.2,by rw[show(i:Int)=x.1 by omega];exact hx⟩
   ·rintro⟨m,hm,b,hx⟩;exact⟨(i,b),(aA _).2 ⟨m,hm,hx⟩,by simp⟩
  have kA:∀i,i<W.zOv.n->i∈(zAI W (qf W)).map (fun x=>x.1.toNat)->¬qJ (W.zOv.s i)/\¬Has W.zOv.hn W.zOv.h i:=by
   intro i hi hx;obtain⟨m,hm,b,hx⟩:=(cA i hi).1 hx;have:=gA m hm _ hx;refine⟨fun hf=>?_,this.2⟩;have h1:=this.1.1;have h2:=this.1.2.2.2;simp only[Int.toNat_natCast]at h2;rw[hf.1]at h2;simp only at h1 h2;omega
  have:=(zGc kA).1 (by rw[hc];omega);intro i hi;rw[<-cA i hi];exact this i hi
 ·rintro⟨rA,ha⟩;refine⟨ha,?_⟩;have bA:=hA.2 ha;have dA:∀x,x∈zAI W (qf W)->zy W.zOv x.1 x.2:=fun x hx=>by
   obtain⟨m,hm,hx⟩:=(aA x).1 hx;exact(gA m hm x hx).1
  have hl:∀x,x∈(zAI W (qf W)).map (fun x=>x.1.toNat)->x<W.zOv.n:=by
   intro x hx;obtain⟨y,eA,rfl⟩:=List.mem_map.1 hx;have:=dA y eA;have h1:=this.2.1;have h2:=this.2.2.1;omega
  have nA:((zAI W (qf W)).map (fun x=>x.1.toNat)).Nodup:=by
   unfold List.Nodup;rw[List.pairwise_map];refine List.Pairwise.imp_of_mem ?_ bA;intro a b iA jA mA e;have p1:=dA a iA;have p2:=dA b jA;have:=p1.2.1;have:=p2.2.1;exact mA (fA a b p1 p2 (by omega))
  have hc:=zEt nA hl;rw[List.length_map]at hc;have hr:=zJC h.right;have cA:∀i,i<W.zOv.n->(i∈(zAI W (qf W)).map (fun x=>x.1.toNat)↔∃m,m<qf W/\∃b,((i:Int),b)∈yf W (zc W m)):=by
   intro i hi;rw[List.mem_map];constructor
   ·rintro⟨x,hx,e⟩;have:=(dA x hx).2.1;obtain⟨m,hm,hx⟩:=(aA x).1 hx;exact⟨m,hm,x.2,by rw[show(i:Int)=x.1 by omega];exact hx⟩
   ·rintro⟨m,hm,b,hx⟩;exact⟨(i,b),(aA _).2 ⟨m,hm,hx⟩,by simp⟩
  have:=zB3 (P:=fun i=>i∈(zAI W (qf W)).map (fun x=>x.1.toNat)) (Q:=fun i=>¬qJ (W.zOv.s i)/\¬Has W.zOv.hn W.zOv.h i) (n:=W.zOv.n) (fun i hi=>(cA i hi).trans (rA i hi));omega
end Go.Proofs.YtgabgheflgjgiaaGreatDoor
