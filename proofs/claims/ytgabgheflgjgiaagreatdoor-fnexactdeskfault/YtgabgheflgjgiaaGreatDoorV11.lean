/- A part of the proof. -/
import Derived.Test.YtgabgheflgjgiaaGreatDoorV10
set_option linter.unusedVariables false
set_option maxRecDepth 20000
set_option maxHeartbeats 8000000
namespace Go.Proofs.YtgabgheflgjgiaaGreatDoor
open Go.RowKit
def zDL(p:zI)(rs rb:Int)(s:zO)(j:Nat):List (Int×Int):=(rs,rb) :: zA4 p s j
def zCk(p:zI)(rs rb:Int)(s:zO)(j i:Nat):List (Int×Int):=zDL p rs rb s j ++ ((zU s j,zq s j) :: kidsUp (zU (p.s (zU s j).toNat)) (zq (p.s (zU s j).toNat)) i)
theorem zMz{p:zI}{rs rb:Int}(hz:¬Nil rs rb):zY p rs rb=zDL p rs rb (p.s rs.toNat) 8:=if_neg hz
theorem zJe{p:zI}{rs rb:Int}{s:zO}{j:Nat}(hn:¬Nil (zU s j) (zq s j)):zDL p rs rb s (j+1)=zCk p rs rb s j 8:=by
 unfold zDL zCk zDL;rw[zA4,zJF hn];rfl
theorem zJf{p:zI}{rs rb:Int}{s:zO}{j:Nat}(hn:Nil (zU s j) (zq s j)):zDL p rs rb s (j+1)=zDL p rs rb s j:=by
 unfold zDL;rw[zA4,show zHT p (zU s j) (zq s j) = [] from if_pos hn,List.append_nil]
theorem zGj(p:zI)(rs rb:Int)(s:zO)(j:Nat):zCk p rs rb s j 0=zDL p rs rb s j ++ [(zU s j,zq s j)]:=rfl
theorem zLM{p:zI}{rs rb:Int}{s:zO}{j i:Nat}(hn:Nil (zU (p.s (zU s j).toNat) i) (zq (p.s (zU s j).toNat) i)):zCk p rs rb s j (i+1)=zCk p rs rb s j i:=by
 unfold zCk;rw[kidsUp,show one (zU (p.s (zU s j).toNat) i) (zq (p.s (zU s j).toNat) i) = [] from if_pos hn,List.append_nil]
theorem zLL{p:zI}{rs rb:Int}{s:zO}{j i:Nat}(hn:¬Nil (zU (p.s (zU s j).toNat) i) (zq (p.s (zU s j).toNat) i)):zCk p rs rb s j (i+1)=zCk p rs rb s j i ++ [(zU (p.s (zU s j).toNat) i,zq (p.s (zU s j).toNat) i)]:=by
 unfold zCk;rw[kidsUp,show one (zU (p.s (zU s j).toNat) i) (zq (p.s (zU s j).toNat) i) = [(zU (p.s (zU s j).toNat) i,zq (p.s (zU s j).toNat) i)] from if_neg hn,List.append_assoc];rfl
theorem zKw(p:zI)(rs rb:Int)(s:zO){j:Nat}(hj:j<=8):(zDL p rs rb s j).length<=73:=by
 have:=zD0 p s j;simp only[zDL,List.length_cons];omega
theorem zMX(p:zI)(rs rb:Int)(s:zO){j i:Nat}(hj:j<=8)(hi:i<=8):(zCk p rs rb s j i).length<=90:=by
 have h1:=zKw p rs rb s hj;have h2:=zAv (zU (p.s (zU s j).toNat)) (zq (p.s (zU s j).toNat)) i;simp only[zCk,List.length_append,List.length_cons];omega
theorem qH.next{w2:World}{base g cap:Nat}{l:List (Int×Int)}{x y:Int}(h:w2.ownsRow base 99 2 (.slice (some ⟨g,0,none⟩) (l.length+1) cap) (l.length+1) (pcl l ++ [.int .i64 x,.int .i64 y])):qH w2 base (.slice (some ⟨g,0,none⟩) (l.length+1) cap) (l ++ [(x,y)]):=by
 unfold qH;rw[zCI,List.length_append];exact h
theorem q8(v0 v1:Value)(lo hi:Nat)(p:zI)(xs xb:Int)(w:World)(h1:qm w lo hi v0 v1 p)(hR:zt p)(hT:qQ p xs xb) :
  Calls Tryz.prog 58 #[.agg #[v0,v1],.agg #[.int .i64 xs,.int .i64 xb]] w fun e w'=>∃v,e = .returned v/\qH w' w.heap.size v (zY p xs xb)/\Below w.heap.size w w':=by
 have Hp:=zF h1;have HR:=zF hR;have HT:=zF hT;obtain⟨a,c,a',c',rfl,rfl⟩:∃a c a' c',v0 = .slice a p.n c/\v1 = .slice a' p.hn c':=by
  obtain⟨⟨_,a,c,h1,_⟩,⟨_,a',c',h3,_⟩⟩:=h1;exact⟨a,c,a',c',h1,h3⟩
 clear h1 hR hT;have lB:=zBz w (.slice a p.n c) (.slice a' p.hn c') (.int .i64 xs) (.int .i64 xb) 36 99;obtain⟨i0,tC,nC⟩:=Option.map_eq_some_iff.1 zCp;simp only[Prod.mk.injEq]at nC;have HI:=zF (And.intro tC nC);clear tC nC;go_enter Tryz.func58,Tryz.ntmps58;have oA:=World.ownsRow_lit (e:=99) (size:=2) (base:=w.heap.size+2) ((w.alloc (.cells #[.slice a p.n c,.slice a' p.hn c'] 36)).alloc (.cells #[.int .i64 xs,.int .i64 xb] 99)) #[] 0 (by rw[lB.2.2.2];omega) (by unfold maxLen;omega) rfl;rw[lB.2.2.2]at oA;have cD:=lB.2.1.zOU (zC _ (.cells #[] 99));obtain⟨⟨y0,y1⟩,⟨y2,y3⟩⟩:=cD;go_wp2_with fail;clear y0 y1 y2 y3;generalize (w.alloc (.cells #[.slice a p.n c,.slice a' p.hn c'] 36)).alloc (.cells #[.int .i64 xs,.int .i64 xb] 99)=W at lB oA ⊢;obtain⟨hB,hX,sC,hz⟩:=lB;have cA:=zC W (.cells #[] 99);have sB:=zF (show qH (W.alloc (.cells #[] 99)) (w.heap.size+2) (.slice (some ⟨w.heap.size+2,0,none⟩) 0 0) [] from oA);have dC:=hB.zOU cA;have fC:=hX.zOU cA;have gC:=zA sC cA;have hz0:(W.alloc (.cells #[] 99)).heap.size=w.heap.size+3:=by rw[World.size_alloc,hz]
 clear oA hB hX sC cA;generalize W.alloc (.cells #[] 99)=W0 at sB dC fC gC hz0 ⊢;refine(yN xs xb W0).mono ?_;rintro e w1 ⟨⟨t,rfl,ht⟩,eB⟩;have pB:=zF (dC.zOU eB);have vB:=zF (fC.zOU eB);have tB:=zF (sB.out.zOU eB);have eC:=zA gC eB;have hz1:w.heap.size+3<=w1.heap.size:=by have:=eB.size;omega
 clear dC fC gC eB sB hz0 hz;by_cases hn:Nil xs xb
 ·have HN:=zF hn;obtain rfl:t=true:=ht.2 hn;clear ht hn;go_wp2;go_ret;refine⟨_,rfl,?_,eC⟩;rw[show zY p xs xb = [] from if_pos HN.out];exact tB.out.mono (by omega)
 ·have HN:=zF hn;obtain rfl:t=false:=zP ht hn;clear ht hn;have jB:zAX p xs xb:=(HT.out.resolve_left HN.out).1;have gB:=zF (HT.out.resolve_left HN.out).2.1.1;have h8:(p.s xs.toNat).kn=8:=by rcases zCu HR.out jB.1 with h | h;(have:=jB.2.1;omega);exact h
  obtain⟨k,rfl⟩:=Int.eq_ofNat_of_zero_le jB.1.2.1;have hk:k<p.n:=(by have:=jB.1.2.2.1;omega);have mD:(k:Int)<(p.n:Int):=(by omega);rw[Int.toNat_natCast]at h8 gB;have H8:=zF h8;clear jB;obtain⟨b,off,ka,kc,rfl,kC⟩:=Hp.out.1.cells hk;have rC:Hid (zp w lo hi (.slice ka 8 kc) 8 (p.s k).ks (p.s k).kb):=(by have:=kC.slot.2.1;rw[h8]at this;exact this);have bC:=zF kC;clear kC h8;obtain⟨⟨x0,x1⟩,⟨x2,x3⟩⟩:=pB.out;obtain⟨⟨y0,y1⟩,⟨y2,y3⟩⟩:=vB.out;have cA:=zC w1 (.cells #[.int .i64 (k:Int),.int .i64 xb] 99);have fA:=zF (tB.out.zOU cA);have vA:=zF (pB.out.zOU cA);have pC:=zF (vB.out.zOU cA);have lA:=zA eC cA;have mB:(w1.alloc (.cells #[.int .i64 (k:Int),.int .i64 xb] 99)).heap.size=w1.heap.size+1:=World.size_alloc _ _;have aB:=zF (World.news_of_block (heap_alloc_last w1 (.cells #[.int .i64 (k:Int),.int .i64 xb] 99)));clear cA tB pB vB eC;go_wp2_with (first
   | (at_builtin;refine wpList_append_lies _ rfl _ _ 100 rfl (w.heap.size+2) 99 i0 (.agg #[.int .i64 0,.int .i64 0]) 2 16 (by kernel_rfl) HI.out.1 HI.out.2.1 HI.out.2.2.1 HI.out.2.2.2 rfl (by decide) (.slice (some ⟨w.heap.size+2,0,none⟩) 0 0) 0 [] rfl fA.out ⟨w1.heap.size,0,none⟩ 1 1 [.int .i64 (k:Int),.int .i64 xb] rfl rfl aB.out (by simp[Value.oneCell']) (by decide) (by unfold maxLen;omega) (by omega) (by omega) _ rfl ?_;intro g4 eA w4 bA aA mA pA;have rA:Below w.heap.size w w4:=lA.grown aA lA.size (fun q hq=>(by have:=(fA.out.lt hq).1;omega));have sA:=zF (vA.out.grownT aA (fun q hq=>by have:=(fA.out.lt hq).1;omega));have oC:=zF (pC.out.grownT aA (fun q hq=>by have:=(fA.out.lt hq).1;omega));have z0:=sA.out.1.1;have z1:=oC.out.1.1;have z2:=(bC.out.zOU rA).c1;rw[H8.out]at z2)
   | go_in)
  have iB:=zF (show qH w4 (w.heap.size+2) (.slice (some ⟨g4,0,none⟩) 1 eA) (zDL p k xb (p.s k) 0)from bA);have hz4:w.heap.size+2<=w4.heap.size:=(by have:=aA.size;omega);clear bA aA mA pA fA vA pC lA aB mB hz1
  go_loopw [5,7] (fun sv i wr=>∃(j:Nat) (sa:Option Addr) (sc:Nat),j<=8/\i = .int .i64 j/\sv = .slice sa (zDL p k xb (p.s k) j).length sc/\qH wr (w.heap.size+2) sv (zDL p k xb (p.s k) j)/\zk wr w.heap.size (.slice (some ⟨b,off,none⟩) p.n c) (.slice a' p.hn c')/\Below w.heap.size w wr/\w.heap.size+2<=wr.heap.size) (fun _ i _=>8 - (intOf i).toNat)
  case atStart=>exact⟨0,some ⟨g4,0,none⟩,eA,Nat.zero_le _,rfl,rfl,iB.out,sA.out,rA,hz4⟩
  case round=>
   obtain⟨j,sa,sc,hj,rfl,rfl,kA,jA,nA,nB⟩:=hrel;have dA:=zF kA;have gA:=zF jA;have gD:=zKw p k xb (p.s k) hj;clear kA jA iB sA oC rA z0 z1 z2 x0 x1 x2 x3 y0 y1 y2 y3 hz4;by_cases hlt:j<8
   ·have jD:(j:Int)<8:=(by omega);obtain⟨tb,nD,rfl,q0,q1⟩:=(rC.out.zOU nA).cellsT hlt;rw[<-zCX H8.out hlt]at q0;rw[<-zDt H8.out hlt]at q1;go_wp2_with fail;refine(yN (zU (p.s k) j) (zq (p.s k) j) wr).mono ?_;rintro e W ⟨⟨t,rfl,ht⟩,hb⟩;have cB:=zA nA hb;have tA:=zF (gA.out.zOU hb);have bB:=zF (dA.out.zOU hb);have mC:w.heap.size+2<=W.heap.size:=(by have:=hb.size;omega);have aD:=(hb.cell (zD q0)).trans q0;have bD:=(hb.cell (zD q1)).trans q1;clear q0 q1 nA hb dA gA nB;by_cases iA:Nil (zU (p.s k) j) (zq (p.s k) j)
    ·have dB:=zF iA;obtain rfl:t=true:=ht.2 iA;clear ht iA;go_wp2;go_roundw
     case rel=>exact⟨j+1,sa,sc,by omega,by go_num,by rw[zJf dB.out],by rw[zJf dB.out];exact bB.out,tA.out,cB,mC⟩
     case measure=>simp[intOf];omega
    ·have dB:=zF iA;obtain rfl:t=false:=zP ht iA;clear ht iA;have kB:zAX p (zU (p.s k) j) (zq (p.s k) j):=by
      rcases gB.out j hlt with h | h
      ·exact absurd h dB.out
      ·exact h.1
     obtain⟨m,hm⟩:=Int.eq_ofNat_of_zero_le kB.1.2.1;have kD:m<p.n:=(by have:=kB.1.2.2.1;omega);have lD:(m:Int)<(p.n:Int):=(by omega);have jC:(zU (p.s k) j).toNat=m:=(by rw[hm];rfl);have cC:(p.s m).kn=8:=by
      have h0:=kB.2.1;have h1:=zCu HR.out kB.1;rw[jC]at h0 h1;rcases h1 with h | h
      ·omega
      ·exact h
     have oB:=zF cC;obtain⟨_,_,ua,uc,ha,lC⟩:=Hp.out.1.cells kD;simp only[Option.some.injEq,Addr.mk.injEq,and_true]at ha;obtain⟨rfl,rfl⟩:=ha;have eD:Hid (zp w lo hi (.slice ua 8 uc) 8 (p.s m).ks (p.s m).kb):=(by have:=lC.slot.2.1;rw[cC]at this;exact this);have dD:=zF lC;have Hm:=zF hm;have aC:=zF jC;have cA:=zC W (.cells #[.int .i64 (zU (p.s k) j),.int .i64 (zq (p.s k) j)] 99);have fA:=zF (bB.out.zOU cA);have vA:=zF (tA.out.zOU cA);have lA:=zA cB cA;have mB:(W.alloc (.cells #[.int .i64 (zU (p.s k) j),.int .i64 (zq (p.s k) j)] 99)).heap.size=W.heap.size+1:=World.size_alloc _ _;have aB:=zF (World.news_of_block (heap_alloc_last W (.cells #[.int .i64 (zU (p.s k) j),.int .i64 (zq (p.s k) j)] 99)));clear lC cC hm jC cA bB tA cB kB;go_wp2_with (first
      | (at_builtin;refine wpList_append_lies _ rfl _ _ 100 rfl (w.heap.size+2) 99 i0 (.agg #[.int .i64 0,.int .i64 0]) 2 16 (by kernel_rfl) HI.out.1 HI.out.2.1 HI.out.2.2.1 HI.out.2.2.2 rfl (by decide) (.slice sa (zDL p k xb (p.s k) j).length sc) (zDL p k xb (p.s k) j).length (pcl (zDL p k xb (p.s k) j)) rfl fA.out ⟨W.heap.size,0,none⟩ 1 1 [.int .i64 (zU (p.s k) j),.int .i64 (zq (p.s k) j)] rfl rfl aB.out (by simp[Value.oneCell']) (by decide) (by unfold maxLen;omega) (by omega) (by omega) _ rfl ?_;intro g4 eA w4 bA aA mA pA)
      | fail)
     have iB:Hid (qH w4 (w.heap.size+2) (.slice (some ⟨g4,0,none⟩) ((zDL p k xb (p.s k) j).length+1) eA) (zCk p k xb (p.s k) j 0)):=by
      rw[zGj];exact qH.next bA
     have rA:Below w.heap.size w w4:=lA.grown aA lA.size (fun q hq=>by have:=(fA.out.lt hq).1;omega);have sA:=zF (vA.out.grownT aA (fun q hq=>by have:=(fA.out.lt hq).1;omega));have hz4:w.heap.size+2<=w4.heap.size:=(by have:=aA.size;omega);clear bA aA mA pA fA vA lA aB aD bD mB;obtain⟨_,_,ha,q0,q1⟩:=(rC.out.zOU rA).cellsT hlt;simp only[Option.some.injEq,Addr.mk.injEq,and_true]at ha;obtain⟨rfl,rfl⟩:=ha;rw[<-zCX H8.out hlt,Hm.out]at q0;obtain⟨r0,r1,r2,_⟩:=dD.out.zOU rA;rw[oB.out]at r1;obtain⟨⟨x0,x1⟩,⟨x2,x3⟩⟩:=sA.out
     go_quiet (fail)
     go_wp2
     go_loopw [5,9] (fun sv i wr=>∃(i':Nat) (sa:Option Addr) (sc:Nat),i'<=8/\i = .int .i64 i'/\sv = .slice sa (zCk p k xb (p.s k) j i').length sc/\qH wr (w.heap.size+2) sv (zCk p k xb (p.s k) j i')/\zk wr w.heap.size (.slice (some ⟨b,off,none⟩) p.n c) (.slice a' p.hn c')/\Below w.heap.size w wr/\w.heap.size+2<=wr.heap.size) (fun _ i _=>8 - (intOf i).toNat)
     case atStart=>exact⟨0,some ⟨g4,0,none⟩,eA,Nat.zero_le _,rfl,by rw[zGj,List.length_append];rfl,iB.out.zOU (zV (Below.refl _ _) _),sA.out.zOU (zV (Below.refl _ _) _),zV rA _,hz4⟩
     case round=>
      obtain⟨i,sa,sc,fD,rfl,rfl,kA,jA,nA,nB⟩:=hrel;have dA:=zF kA;have gA:=zF jA;have vC:=zMX p k xb (p.s k) (show j<=8 by omega) fD;clear kA jA iB sA rA x0 x1 x2 x3 q0 q1 r0 r1 r2 hz4;by_cases iC:i<8
      ·have iD:(i:Int)<8:=(by omega);obtain⟨ub,oD,rfl,q0,q1⟩:=(eD.out.zOU nA).cellsT iC;rw[<-zCX oB.out iC]at q0;rw[<-zDt oB.out iC]at q1;go_wp2_with fail;refine(yN (zU (p.s m) i) (zq (p.s m) i) wr).mono ?_;rintro e W ⟨⟨t,rfl,ht⟩,hb⟩;have cB:=zA nA hb;have tA:=zF (gA.out.zOU hb);have bB:=zF (dA.out.zOU hb);have mC:w.heap.size+2<=W.heap.size:=(by have:=hb.size;omega);have aD:=(hb.cell (zD q0)).trans q0;have bD:=(hb.cell (zD q1)).trans q1;clear q0 q1 nA hb dA gA nB;by_cases iA:Nil (zU (p.s m) i) (zq (p.s m) i)
       ·have rB:=zF iA;obtain rfl:t=true:=ht.2 iA;clear ht iA;have es:zCk p k xb (p.s k) j (i+1)=zCk p k xb (p.s k) j i:=zLM (by rw[aC.out];exact rB.out);have fB:=zF es;clear es;go_wp2;go_roundw
        case rel=>exact⟨i+1,sa,sc,by omega,by go_num,by rw[fB.out],by rw[fB.out];exact bB.out,tA.out,cB,mC⟩
        case measure=>simp[intOf];omega
       ·have rB:=zF iA;obtain rfl:t=false:=zP ht iA;clear ht iA;have es:zCk p k xb (p.s k) j (i+1)=zCk p k xb (p.s k) j i ++ [(zU (p.s m) i,zq (p.s m) i)]:=(by have:=zLL (p:=p) (rs:=(k:Int)) (rb:=xb) (s:=p.s k) (j:=j) (i:=i) (by rw[aC.out];exact rB.out);rw[aC.out]at this;exact this);have fB:=zF es;clear es;have cA:=zC W (.cells #[.int .i64 (zU (p.s m) i),.int .i64 (zq (p.s m) i)] 99);have fA:=zF (bB.out.zOU cA);have vA:=zF (tA.out.zOU cA);have lA:=zA cB cA;have mB:(W.alloc (.cells #[.int .i64 (zU (p.s m) i),.int .i64 (zq (p.s m) i)] 99)).heap.size=W.heap.size+1:=World.size_alloc _ _;have aB:=zF (World.news_of_block (heap_alloc_last W (.cells #[.int .i64 (zU (p.s m) i),.int .i64 (zq (p.s m) i)] 99)));clear cA bB tA cB;go_wp2_with (first
         | (at_builtin;refine wpList_append_lies _ rfl _ _ 100 rfl (w.heap.size+2) 99 i0 (.agg #[.int .i64 0,.int .i64 0]) 2 16 (by kernel_rfl) HI.out.1 HI.out.2.1 HI.out.2.2.1 HI.out.2.2.2 rfl (by decide) (.slice sa (zCk p k xb (p.s k) j i).length sc) (zCk p k xb (p.s k) j i).length (pcl (zCk p k xb (p.s k) j i)) rfl fA.out ⟨W.heap.size,0,none⟩ 1 1 [.int .i64 (zU (p.s m) i),.int .i64 (zq (p.s m) i)] rfl rfl aB.out (by simp[Value.oneCell']) (by decide) (by unfold maxLen;omega) (by omega) (by omega) _ rfl ?_;intro g4 eA w4 bA aA mA pA)
         | go_in)
        go_roundw
        case rel=>exact⟨i+1,some ⟨g4,0,none⟩,eA,by omega,by go_num,by rw[fB.out,List.length_append];rfl,by rw[fB.out];exact qH.next bA,vA.out.grownT aA (fun q hq=>by have:=(fA.out.lt hq).1;omega),lA.grown aA lA.size (fun q hq=>by have:=(fA.out.lt hq).1;omega),by have:=aA.size;omega⟩
        case measure=>simp[intOf];omega
      ·obtain rfl:i=8:=(by omega);go_wp2;go_roundw
       case rel=>exact⟨j+1,sa,sc,by omega,by go_num,by rw[zJe dB.out],by rw[zJe dB.out];exact dA.out,gA.out,nA,nB⟩
       case measure=>simp[intOf];omega
   ·obtain rfl:j=8:=(by omega);go_wp2;go_ret;exact⟨_,rfl,by rw[zMz HN.out];exact dA.out.mono (by omega),nA⟩
open Classical in
noncomputable def roomN(f:Nat->zO):Nat->Nat
 | 0=>0
 | k+1=>roomN f k+(if qJ (f k)then 1 else 0)
theorem zB3{f:Nat->zO}{k:Nat}(h:qJ (f k)):roomN f (k+1)=roomN f k+1:=by simp[roomN,h]
theorem zCJ{f:Nat->zO}{k:Nat}(h:¬qJ (f k)):roomN f (k+1)=roomN f k:=by simp[roomN,h]
theorem zGs(f:Nat->zO):∀k,roomN f k<=k
 | 0=>Nat.le_refl _
 | k+1=>by
  have:=zGs f k;by_cases h:qJ (f k)
  ·rw[zB3 h];omega
  ·rw[zCJ h];omega
open Classical in
noncomputable def zGt(p:zI):Int:=if zt p then(roomN p.s p.n:Int)else 0
structure zGG where
 zOg:Int
 time:Int
 rs:Int
 rb:Int
 dn:Nat
 ds:Nat->Int
 db:Nat->Int
def zOD(s:zd):zGG:=⟨s.zOg,s.time,s.rs,s.rb,s.dn,s.ds,s.db⟩
def zOE(t:Int)(s:zu):zGG:=⟨s.zOg,t,s.rs,s.rb,s.dn,s.ds,s.db⟩
def zc(W:zH)(i:Nat):zGG:=if i<W.pn then zOD (W.zOb i)else zOE W.time (W.zOd (i - W.pn))
def qf(W:zH):Nat:=W.pn+W.sn
theorem qZ{W:zH}{i:Nat}(h:i<W.pn):zc W i=zOD (W.zOb i):=if_pos h
theorem yk(W:zH)(i:Nat):zc W (W.pn+i)=zOE W.time (W.zOd i):=by
 unfold zc;rw[if_neg (by omega),show W.pn+i - W.pn=i by omega]
def qu:zd:=⟨0,ByteArray.empty,ByteArray.empty,0,0,0,0,0,fun _=>0,fun _=>0⟩
open Classical in
noncomputable def zN(W:zH)(x:Int):zd:=if h:∃k,qo W x k then W.zOb h.choose else qu
theorem qX{W:zH}{x:Int}{k:Nat}(h:qo W x k):zN W x=W.zOb k:=by
 unfold zN;rw[dif_pos ⟨k,h⟩,qo.uniq (Exists.choose_spec (⟨k,h⟩:∃k,qo W x k)) h]
theorem zEN{W:zH}{x:Int}(h:∀k,k<W.pn->(W.zOb k).id≠x):zN W x=qu:=by
 unfold zN;rw[dif_neg];rintro⟨k,hk⟩;exact h k hk.1 hk.2.1
theorem zH2{W:zH}{x:Int}:∀{n:Nat},n<=W.pn->(∃k,k<n/\(W.zOb k).id=x)->∃k,qo W x k
 | 0,_,⟨k,hk,_⟩=>absurd hk (Nat.not_lt_zero _)
 | n+1,hn,⟨k,hk,e⟩=>by
  by_cases h:∃j,j<n/\(W.zOb j).id=x
  ·exact zH2 (by omega) h
  ·have:k=n:=by
    by_cases h':k<n
    ·exact absurd ⟨k,h',e⟩ h
    ·omega
   subst this;exact⟨k,by omega,e,fun j hj he=>h ⟨j,hj,he⟩⟩
def yf(W:zH)(m:zGG):List (Int×Int):=zY W.zOa m.rs m.rb
noncomputable def zCO(W:zH)(m:zGG):List (Int×Int):=zY W.zOa (zN W m.zOg).rs (zN W m.zOg).rb
def zCG(l m:List (Int×Int)):List (Int×Int):=l.filter (fun x=>decide (x∉m))
def zIL(l m:List (Int×Int)):List (Int×Int):=l.filter (fun x=>decide (x∈m))
def zFb(l:List (Int×Int))(t:Int):List (Int×Int):=l.filter (fun x=>decide (t<x.2))
noncomputable def zEU(W:zH)(m:zGG):List (Int×Int):=zCG (yf W m) (zCO W m)
noncomputable def zAo(W:zH)(m:zGG):List (Int×Int):=zFb (yf W m) (zN W m.zOg).time
def zC4(n:Nat)(f g:Nat->Int)(l:List (Int×Int)):Prop:=zNg n f g l.length (zg l) (zj l)
def zKT(now old:List (Int×Int))(t tm:Int):Prop:=∀x,x∈now->x.2<=tm/\(x∈old↔x.2<=t)
def zHb(W:zH)(m:zGG):Prop:=zC4 m.dn m.ds m.db (zCG (zCO W m) (yf W m))/\zKT (yf W m) (zCO W m) (zN W m.zOg).time m.time
def zNe(W:zH)(m:zGG):Prop:=m.rb<=m.time/\zC4 (zAo W m).length (zg (zAo W m)) (zj (zAo W m)) (zEU W m)/\zC4 m.dn m.ds m.db (zCG (zCO W m) (zIL (yf W m) (zCO W m)))
theorem zLC(l m:List (Int×Int)):zCG m (zIL l m)=zCG m l:=by
 unfold zCG zIL;refine List.filter_congr fun x hx=>?_
 rw[decide_eq_decide];simp only[List.mem_filter,decide_eq_true_eq];exact⟨fun h h'=>h ⟨h',hx⟩,fun h h'=>h h'.1⟩
theorem yQ{l:List (Int×Int)}{i:Nat}(h:i<l.length):l.getD i (0,0)=l[i]:=by
 rw[List.getD_eq_getElem?_getD,List.getElem?_eq_getElem h,Option.getD_some]
theorem zCt{l:List (Int×Int)}{x y:Int}:PIn l.length (zg l) (zj l) x y↔(x,y)∈l:=by
 constructor
 ·rintro⟨j,hj,e1,e2⟩;unfold zg at e1;unfold zj at e2;rw[yQ hj]at e1 e2;have:l[j]=(x,y):=Prod.ext e1 e2;exact this▸List.getElem_mem hj
 ·intro h;obtain⟨j,hj,e⟩:=List.getElem_of_mem h;exact⟨j,hj,by unfold zg;rw[yQ hj,e],by unfold zj;rw[yQ hj,e]⟩
structure zAy (W:zH):Prop where
 right:zt W.zOa
 ids:∀k,k<W.pn->(W.zOb k).zOg<(W.zOb k).id
 tree:∀i,i<qf W->qQ W.zOa (zc W i).rs (zc W i).rb
 time:∀i,i<qf W->0<=(zc W i).time
theorem zBk{p:zI}{rs rb:Int}(hR:zt p)(hT:qQ p rs rb){x:Int×Int}(hx:x∈zY p rs rb):zy p x.1 x.2/\x.2<=rb/\¬Has p.hn p.h x.1:=by
 rcases(zJg hR).2 hT with hz | ⟨hP,_,hA⟩
 ·rw[zY,if_pos hz]at hx;simp at hx
 ·have:=zCd hR hP x hx;exact⟨this.1,this.2,hA.2 x hx⟩
theorem zDo{p:zI}{rs rb:Int}(hR:zt p)(hT:qQ p rs rb):(zY p rs rb).Nodup:=by
 rcases(zJg hR).2 hT with hz | ⟨hP,_,hA⟩
 ·rw[zY,if_pos hz];exact List.nodup_nil
 ·exact hA.1
theorem zAy.old{W:zH}(h:zAy W)(x:Int):qQ W.zOa (zN W x).rs (zN W x).rb:=by
 by_cases hx:∃k,qo W x k
 ·obtain⟨k,hk⟩:=hx;rw[qX hk];have:=h.tree k (by unfold qf;have:=hk.1;omega);rw[qZ hk.1]at this;exact this
 ·have:zN W x=qu:=by
   unfold zN;rw[dif_neg hx]
  rw[this];exact Or.inl ⟨rfl,rfl⟩
theorem zLS{p:zI}{x y:Int}(hR:zt p)(h:zy p x y):zLt x y:=by
 have hf:=qq hR h;have h1:=hR.1;obtain⟨a,b,c,d⟩:=h;have:=hf.1.2;exact⟨b,by omega,a,by omega⟩
theorem zFp{p:zI}(hR:zt p){l:List (Int×Int)}(h:∀x,x∈l->zy p x.1 x.2)(hn:l.Nodup)(hl:l.length<=200):zCf l.length (zg l) (zj l):=by
 have hs:=(zFL h).2 hn;refine⟨hl,fun i hi=>?_,fun i hi k hk=>?_⟩
 ·unfold zg zj;rw[yQ hi];exact zLS hR (h _ (List.getElem_mem hi))
 ·unfold zg;rw[yQ hi,yQ (show k<l.length by omega)];unfold yG List.Nodup at hs;rw[List.pairwise_map]at hs;exact List.pairwise_iff_getElem.1 hs k i (by omega) hi hk
theorem zIh{p:zI}(hR:zt p){T:List (Int×Int)}(hT:∀x,x∈T->zy p x.1 x.2)(hn:T.Nodup)(hl:T.length<=200)(P Q:Int×Int->Bool) :
  zC4 (T.filter P).length (zg (T.filter P)) (zj (T.filter P)) (T.filter Q)↔∀x,x∈T->P x=Q x:=by
 constructor
 ·rintro⟨_,_,aA,cA⟩;have h1:∀x,x∈T->P x=true->Q x=true:=fun x hx hp=>by
   have hm:x∈T.filter P:=List.mem_filter.2 ⟨hx,hp⟩;obtain⟨j,hj,e⟩:=List.getElem_of_mem hm;have:=cA j hj;rw[zCt]at this;unfold zg zj at this;rw[yQ hj,e]at this;exact(List.mem_filter.1 this).2
  have h2:(T.filter Q).filter P=T.filter P:=by
   rw[List.filter_filter];refine List.filter_congr fun x hx=>?_
   cases hp:P x
   ·rfl
   ·rw[h1 x hx hp];rfl
  have h3:((T.filter Q).filter P).length=(T.filter Q).length:=(by rw[h2,aA]);rw[List.length_filter_eq_length_iff]at h3;intro x hx;cases hq:Q x
  ·cases hp:P x
   ·rfl
   ·rw[h1 x hx hp]at hq;exact absurd hq (by simp)
  ·exact h3 x (List.mem_filter.2 ⟨hx,hq⟩)
 ·intro h;have e:T.filter P=T.filter Q:=List.filter_congr h;rw[e];have bA:zCf (T.filter Q).length (zg (T.filter Q)) (zj (T.filter Q)):=zFp hR (fun x hx=>hT x (List.mem_filter.1 hx).1) (hn.filter _) (Nat.le_trans (List.length_filter_le _ _) hl);exact⟨bA,bA,rfl,fun i hi=>⟨i,hi,rfl,rfl⟩⟩
theorem zGh{W:zH}(h:zAy W){i:Nat}(hi:i<qf W):zNe W (zc W i)↔zHb W (zc W i):=by
 generalize hm:zc W i=m;have hT:=h.tree i hi;have dA:=h.time i hi;rw[hm]at hT dA;have bA:(yf W m).length<=200:=by have:=qs W.zOa m.rs m.rb;unfold yf;omega
 have eA:∀x,x∈yf W m->zy W.zOa x.1 x.2:=fun x hx=>(zBk h.right hT hx).1
 unfold zNe zHb;rw[zLC];have key:zC4 (zAo W m).length (zg (zAo W m)) (zj (zAo W m)) (zEU W m)↔∀x,x∈yf W m->(x∈zCO W m↔x.2<=(zN W m.zOg).time):=by
  unfold zAo zEU zFb zCG;rw[zIh h.right eA (zDo h.right hT) bA];refine⟨fun hh x hx=>?_,fun hh x hx=>?_⟩
  ·have:=hh x hx;rw[decide_eq_decide]at this;constructor
   ·intro aA;by_cases hlt:(zN W m.zOg).time<x.2
    ·exact absurd aA (this.1 hlt)
    ·omega
   ·intro cA;by_cases aA:x∈zCO W m
    ·exact aA
    ·have:=this.2 aA;omega
  ·rw[decide_eq_decide];have:=hh x hx;constructor
   ·intro hlt aA;have:=this.1 aA;omega
   ·intro aA;by_cases cA:x.2<=(zN W m.zOg).time
    ·exact absurd (this.2 cA) aA
    ·omega
 rw[key];constructor
 ·rintro⟨h1,h2,h3⟩;exact⟨h3,fun x hx=>⟨by have:=(zBk h.right hT hx).2.1;omega,h2 x hx⟩⟩
 ·rintro⟨h1,h2⟩;refine⟨?_,fun x hx=>(h2 x hx).2,h1⟩;by_cases hz:Nil m.rs m.rb
  ·rw[hz.2];exact dA
  ·have hr:(m.rs,m.rb)∈yf W m:=(by unfold yf zY;rw[if_neg hz];simp);exact(h2 _ hr).1
theorem zLk{W:zH}{m:zGG}(hS:zHb W m):zAo W m=zEU W m:=by
 unfold zAo zEU zFb zCG;refine List.filter_congr fun x hx=>?_
 rw[decide_eq_decide];have:=(hS.2 x hx).2;constructor
 ·intro h1 h2;have:=this.1 h2;omega
 ·intro h1;by_cases h2:x.2<=(zN W m.zOg).time
  ·exact absurd (this.2 h2) h1
  ·omega
open Classical in
noncomputable def cnt(P:Nat->Prop):Nat->Nat
 | 0=>0
 | k+1=>cnt P k+(if P k then 1 else 0)
theorem zB1{P Q:Nat->Prop}:∀{n:Nat},(∀i,i<n->(P i↔Q i))->cnt P n=cnt Q n
 | 0,_=>rfl
 | n+1,h=>by
  unfold cnt;rw[zB1 (fun i hi=>h i (by omega))];by_cases hp:P n
  ·rw[if_pos hp,if_pos ((h n (by omega)).1 hp)]
  ·rw[if_neg hp,if_neg (fun hq=>hp ((h n (by omega)).2 hq))]
theorem zL4{P Q:Nat->Prop}:∀{n:Nat},(∀i,i<n->P i->Q i)->cnt P n<=cnt Q n
 | 0,_=>Nat.le_refl _
 | n+1,h=>by
  unfold cnt;have:=zL4 (n:=n) (fun i hi=>h i (by omega));by_cases hp:P n
  ·rw[if_pos hp,if_pos (h n (by omega) hp)];omega
  ·rw[if_neg hp];omega
theorem zGR{P Q:Nat->Prop}:∀{n:Nat},(∀i,i<n->P i->Q i)->(cnt P n=cnt Q n↔∀i,i<n->(P i↔Q i))
 | 0,_=>⟨fun _ i hi=>absurd hi (Nat.not_lt_zero _),fun _=>rfl⟩
 | n+1,h=>by
  refine⟨fun e=>?_,fun e=>zB1 e⟩;have aA:=zL4 (n:=n) (fun i hi=>h i (by omega));have ih:=zGR (n:=n) (fun i hi=>h i (by omega));unfold cnt at e;have hn:P n↔Q n:=by
   refine⟨h n (by omega),fun hq=>?_⟩;by_cases hp:P n
   ·exact hp
   ·rw[if_neg hp,if_pos hq]at e;omega
  have e':cnt P n=cnt Q n:=by
   by_cases hp:P n
   ·rw[if_pos hp,if_pos (hn.1 hp)]at e;omega
   ·rw[if_neg hp,if_neg (fun hq=>hp (hn.2 hq))]at e;omega
  intro i hi;by_cases e2:i=n
  ·subst e2;exact hn
  ·exact ih.1 e' i (by omega)
theorem zJs{P Q:Nat->Prop}:∀{n:Nat},(∀i,i<n->P i->¬Q i)->cnt (fun i=>P i\/Q i) n=cnt P n+cnt Q n
 | 0,_=>rfl
 | n+1,h=>by
  unfold cnt;rw[zJs (fun i hi=>h i (by omega))];by_cases hp:P n
  ·rw[if_pos (Or.inl hp),if_pos hp,if_neg (h n (by omega) hp)];omega
  ·by_cases hq:Q n
   ·rw[if_pos (Or.inr hq),if_neg hp,if_pos hq];omega
   ·rw[if_neg (fun h=>h.elim hp hq),if_neg hp,if_neg hq];omega
theorem zKZ(P:Nat->Prop):∀n,cnt P n+cnt (fun i=>¬P i) n=n
 | 0=>rfl
 | n+1=>by
  have:=zKZ P n;unfold cnt;by_cases hp:P n
  ·rw[if_pos hp,if_neg (fun h=>h hp)];omega
  ·rw[if_neg hp,if_pos hp];omega
theorem zGS{P:Nat->Prop}:∀{n:Nat},(∀i,i<n->¬P i)->cnt P n=0
 | 0,_=>rfl
 | n+1,h=>by
  unfold cnt;rw[zGS (fun i hi=>h i (by omega)),if_neg (h n (by omega))]
theorem zKa:∀{n a:Nat},a<n->cnt (fun i=>i=a) n=1
 | 0,a,h=>absurd h (Nat.not_lt_zero _)
 | n+1,a,h=>by
  unfold cnt;by_cases e:n=a
  ·subst e;rw[if_pos rfl,zGS (fun i hi=>by omega)]
  ·rw[if_neg e,zKa (by omega)]
theorem zEl{n:Nat}:∀{l:List Nat},l.Nodup->(∀x,x∈l->x<n)->cnt (fun i=>i∈l) n=l.length
 | [],_,_=>zGS (fun i hi=>by simp)
 | a :: l,hn,hl=>by
  obtain⟨h1,h2⟩:=List.nodup_cons.1 hn;have e1:cnt (fun i=>i∈a :: l) n=cnt (fun i=>i=a\/i∈l) n:=zB1 (fun i _=>List.mem_cons);have e2:cnt (fun i=>i=a\/i∈l) n=cnt (fun i=>i=a) n+cnt (fun i=>i∈l) n:=zJs (fun i _ (e:i=a) hi=>h1 (e▸hi));rw[e1,e2,zKa (hl a (by simp)),zEl h2 (fun x hx=>hl x (by simp[hx])),List.length_cons];omega
theorem zI0(f:Nat->zO):∀n,roomN f n=cnt (fun i=>qJ (f i)) n
 | 0=>rfl
 | n+1=>by unfold roomN cnt;rw[zI0 f n]
theorem zL3{p:zI}(hR:zt p):cnt (fun i=>Has p.hn p.h i) p.n=p.hn:=by
 have h:=hR.2.2;have hl:∀x,x∈(List.range p.hn).map (fun j=>(p.h j).toNat)->x<p.n:=by
  intro x hx;obtain⟨j,hj,rfl⟩:=List.mem_map.1 hx;have:=h j (List.mem_range.1 hj);have h1:=this.1;have h2:=this.2.1;omega
 have hn:((List.range p.hn).map (fun j=>(p.h j).toNat)).Nodup:=by
  unfold List.Nodup;rw[List.pairwise_map];refine List.Pairwise.imp_of_mem ?_ (List.pairwise_lt_range);intro a b ha hb aA e;have h1:=h a (List.mem_range.1 ha);have h2:=h b (List.mem_range.1 hb);have:=h1.1;have:=h2.1;exact h2.2.2.2 ⟨a,aA,by omega⟩
 have:=zEl hn hl;rw[List.length_map,List.length_range]at this;refine Eq.trans (zB1 (fun i hi=>?_)) this;constructor
 ·rintro⟨j,hj,e⟩;exact List.mem_map.2 ⟨j,List.mem_range.2 hj,by rw[e];simp⟩
 ·intro hx;obtain⟨j,hj,e⟩:=List.mem_map.1 hx;have:=(h j (List.mem_range.1 hj)).1;exact⟨j,List.mem_range.1 hj,by omega⟩
theorem zIz{p:zI}(hR:zt p):cnt (fun i=>¬qJ (p.s i)/\¬Has p.hn p.h i) p.n+roomN p.s p.n+p.hn=p.n:=by
 have h1:=zKZ (fun i=>qJ (p.s i)\/Has p.hn p.h i) p.n;have h2:cnt (fun i=>qJ (p.s i)\/Has p.hn p.h i) p.n=cnt (fun i=>qJ (p.s i)) p.n+cnt (fun i=>Has p.hn p.h i) p.n:=zJs (fun i hi hf=>by
  rintro⟨j,hj,e⟩;have:=(hR.2.2 j hj).2.2.1;rw[e]at this;simp only[Int.toNat_natCast]at this;exact this hf)
 rw[zL3 hR,<-zI0]at h2;have h3:cnt (fun i=>¬(qJ (p.s i)\/Has p.hn p.h i)) p.n=cnt (fun i=>¬qJ (p.s i)/\¬Has p.hn p.h i) p.n:=zB1 (fun i _=>not_or);omega
def zDr(W:zH):Prop:=∀i,i<W.zOa.n->((∃m,m<qf W/\∃b,((i:Int),b)∈yf W (zc W m))↔(¬qJ (W.zOa.s i)/\¬Has W.zOa.hn W.zOa.h i))
def zE9(W:zH):Prop:=∀i,i<qf W->∀j,j<i->∀x,x∈zEU W (zc W i)->∀y,y∈zEU W (zc W j)->x.1≠y.1
noncomputable def zAH(W:zH):Nat->List (Int×Int)
 | 0=>[]
 | k+1=>zAH W k ++ zAo W (zc W k)
def zID(W:zH):Prop:=(zAH W (qf W)).Nodup/\(zAH W (qf W)).length+roomN W.zOa.s W.zOa.n+W.zOa.hn=W.zOa.n
theorem zDu{W:zH}{x:Int×Int}:∀{k:Nat},x∈zAH W k↔∃i,i<k/\x∈zAo W (zc W i)
 | 0=>by simp[zAH]
 | k+1=>by
  unfold zAH;rw[List.mem_append,zDu];constructor
  ·rintro(⟨i,hi,h⟩ | h)
   ·exact⟨i,by omega,h⟩
   ·exact⟨k,by omega,h⟩
  ·rintro⟨i,hi,h⟩;by_cases e:i=k
   ·subst e;exact Or.inr h
   ·exact Or.inl ⟨i,by omega,h⟩
theorem zFf{W:zH}:∀{k:Nat},(∀i,i<k->(zAo W (zc W i)).Nodup)->((zAH W k).Nodup↔∀i,i<k->∀j,j<i->∀x,x∈zAo W (zc W i)->x∉zAo W (zc W j))
 | 0,_=>⟨fun _ i hi=>absurd hi (Nat.not_lt_zero _),fun _=>List.nodup_nil⟩
 | k+1,hy=>by
  unfold zAH;rw[List.nodup_append,zFf (fun i hi=>hy i (by omega))];constructor
  ·rintro⟨h1,h2,h3⟩ i hi j hj x hx aA;by_cases e:i=k
   ·subst e;exact h3 x (zDu.2 ⟨j,hj,aA⟩) x hx rfl
   ·exact h1 i (by omega) j hj x hx aA
  ·intro h;refine⟨fun i hi=>h i (by omega),hy k (by omega),fun x hx y bA e=>?_⟩;subst e;obtain⟨i,hi,hx⟩:=zDu.1 hx;exact h k (by omega) i hi x bA hx
theorem zI7{W:zH}(h:zAy W){x:Int×Int}:∀(N:Nat) (k:Nat),k<W.pn->(W.zOb k).id<N->0<=(W.zOb k).id->(∀j,j<W.pn->0<=(W.zOb j).id)->x∈yf W (zc W k)->∃i,i<qf W/\x∈zEU W (zc W i)
 | 0,k,hk,h1,h2,_,_=>by omega
 | N+1,k,hk,h1,h2,h0,hx=>by
  by_cases ho:x∈zCO W (zc W k)
  ·have aA:∃j,qo W (zc W k).zOg j:=by
    refine Classical.byContradiction fun hne=>?_
    have:zN W (zc W k).zOg=qu:=(by unfold zN;rw[dif_neg hne]);unfold zCO at ho;rw[this,zY,if_pos ⟨rfl,rfl⟩]at ho;simp at ho
   obtain⟨j,hj⟩:=aA;unfold zCO at ho;rw[qX hj]at ho;have e1:(zc W k).zOg=(W.zOb k).zOg:=(by rw[qZ hk];rfl);have:=h.ids k hk;have:=hj.2.1;exact zI7 h N j hj.1 (by omega) (h0 j hj.1) h0 (by rw[qZ hj.1];exact ho)
  ·exact⟨k,by unfold qf;omega,List.mem_filter.2 ⟨hx,by simpa using ho⟩⟩
theorem zMJ{W:zH}(h:zAy W)(h0:∀j,j<W.pn->0<=(W.zOb j).id){x:Int×Int}{m:Nat}(hm:m<qf W)(hx:x∈yf W (zc W m)):∃i,i<qf W/\x∈zEU W (zc W i):=by
 by_cases ho:x∈zCO W (zc W m)
 ·have aA:∃j,qo W (zc W m).zOg j:=by
   refine Classical.byContradiction fun hne=>?_
   have:zN W (zc W m).zOg=qu:=(by unfold zN;rw[dif_neg hne]);unfold zCO at ho;rw[this,zY,if_pos ⟨rfl,rfl⟩]at ho;simp at ho
  obtain⟨j,hj⟩:=aA;unfold zCO at ho;rw[qX hj]at ho;have:=h0 j hj.1;exact zI7 h ((W.zOb j).id.toNat+1) j hj.1 (by omega) (h0 j hj.1) h0 (by rw[qZ hj.1];exact ho)
 ·exact⟨m,hm,List.mem_filter.2 ⟨hx,by simpa using ho⟩⟩
theorem zHh{W:zH}(h:zAy W)(h0:∀j,j<W.pn->0<=(W.zOb j).id)(hM:∀i,i<qf W->zHb W (zc W i)):zID W↔zDr W/\zE9 W:=by
 have hy:∀i,i<qf W->zAo W (zc W i)=zEU W (zc W i):=fun i hi=>zLk (hM i hi)
 have hnd:∀i,i<qf W->(zAo W (zc W i)).Nodup:=fun i hi=>(zDo h.right (h.tree i hi)).filter _
 have lA:∀i,i<qf W->∀x,x∈zEU W (zc W i)->x∈yf W (zc W i):=fun i _ x hx=>(List.mem_filter.1 hx).1
 have gA:∀i,i<qf W->∀x,x∈yf W (zc W i)->zy W.zOa x.1 x.2/\¬Has W.zOa.hn W.zOa.h x.1:=fun i hi x hx=>⟨(zBk h.right (h.tree i hi) hx).1,(zBk h.right (h.tree i hi) hx).2.2⟩
 have fA:∀x y:Int×Int,zy W.zOa x.1 x.2->zy W.zOa y.1 y.2->x.1=y.1->x=y:=fun x y hx eA e=>by
  have a1:=hx.2.2.2;have a2:=eA.2.2.2;rw[e]at a1;exact Prod.ext e (a1.symm.trans a2)
 have hA:(zAH W (qf W)).Nodup↔zE9 W:=by
  rw[zFf hnd];unfold zE9;constructor
  ·intro hh i hi j hj x hx y eA e;have rA:=fA x y (gA i hi x (lA i hi x hx)).1 (gA j (by omega) y (lA j (by omega) y eA)).1 e;subst rA;exact hh i hi j hj x (by rw[hy i hi];exact hx) (by rw[hy j (by omega)];exact eA)
  ·intro hh i hi j hj x hx pA;exact hh i hi j hj x (by rw[<-hy i hi];exact hx) x (by rw[<-hy j (by omega)];exact pA) rfl
 have aA:∀x,x∈zAH W (qf W)↔∃m,m<qf W/\x∈yf W (zc W m):=fun x=>by
  rw[zDu];constructor
  ·rintro⟨i,hi,hx⟩;rw[hy i hi]at hx;exact⟨i,hi,lA i hi x hx⟩
  ·rintro⟨m,hm,hx⟩;obtain⟨i,hi,hx⟩:=zMJ h h0 hm hx;exact⟨i,hi,by rw[hy i hi];exact hx⟩
 unfold zID;rw[hA];constructor
 ·rintro⟨ha,nA⟩;refine⟨?_,ha⟩;have bA:=hA.2 ha;have dA:∀x,x∈zAH W (qf W)->zy W.zOa x.1 x.2:=fun x hx=>by
   obtain⟨m,hm,hx⟩:=(aA x).1 hx;exact(gA m hm x hx).1
  have hl:∀x,x∈(zAH W (qf W)).map (fun x=>x.1.toNat)->x<W.zOa.n:=by
   intro x hx;obtain⟨y,eA,rfl⟩:=List.mem_map.1 hx;have:=dA y eA;have h1:=this.2.1;have h2:=this.2.2.1;omega
  have mA:((zAH W (qf W)).map (fun x=>x.1.toNat)).Nodup:=by
   unfold List.Nodup;rw[List.pairwise_map];refine List.Pairwise.imp_of_mem ?_ bA;intro a b iA jA hne e;have p1:=dA a iA;have p2:=dA b jA;have:=p1.2.1;have:=p2.2.1;exact hne (fA a b p1 p2 (by omega))
  have hc:=zEl mA hl;rw[List.length_map]at hc;have hr:=zIz h.right;have cA:∀i,i<W.zOa.n->(i∈(zAH W (qf W)).map (fun x=>x.1.toNat)↔∃m,m<qf W/\∃b,((i:Int),b)∈yf W (zc W m)):=by
   intro i hi;rw[List.mem_map];constructor
   ·rintro⟨x,hx,e⟩;have:=(dA x hx).2.1;obtain⟨m,hm,hx⟩:=(aA x).1 hx;exact⟨m,hm,x.2,by rw[show(i:Int)=x.1 by omega];exact hx⟩
   ·rintro⟨m,hm,b,hx⟩;exact⟨(i,b),(aA _).2 ⟨m,hm,hx⟩,by simp⟩
  have kA:∀i,i<W.zOa.n->i∈(zAH W (qf W)).map (fun x=>x.1.toNat)->¬qJ (W.zOa.s i)/\¬Has W.zOa.hn W.zOa.h i:=by
   intro i hi hx;obtain⟨m,hm,b,hx⟩:=(cA i hi).1 hx;have:=gA m hm _ hx;refine⟨fun hf=>?_,this.2⟩;have h1:=this.1.1;have h2:=this.1.2.2.2;simp only[Int.toNat_natCast]at h2;rw[hf.1]at h2;simp only at h1 h2;omega
  have:=(zGR kA).1 (by rw[hc];omega);intro i hi;rw[<-cA i hi];exact this i hi
 ·rintro⟨oA,ha⟩;refine⟨ha,?_⟩;have bA:=hA.2 ha;have dA:∀x,x∈zAH W (qf W)->zy W.zOa x.1 x.2:=fun x hx=>by
   obtain⟨m,hm,hx⟩:=(aA x).1 hx;exact(gA m hm x hx).1
  have hl:∀x,x∈(zAH W (qf W)).map (fun x=>x.1.toNat)->x<W.zOa.n:=by
   intro x hx;obtain⟨y,eA,rfl⟩:=List.mem_map.1 hx;have:=dA y eA;have h1:=this.2.1;have h2:=this.2.2.1;omega
  have mA:((zAH W (qf W)).map (fun x=>x.1.toNat)).Nodup:=by
   unfold List.Nodup;rw[List.pairwise_map];refine List.Pairwise.imp_of_mem ?_ bA;intro a b iA jA hne e;have p1:=dA a iA;have p2:=dA b jA;have:=p1.2.1;have:=p2.2.1;exact hne (fA a b p1 p2 (by omega))
  have hc:=zEl mA hl;rw[List.length_map]at hc;have hr:=zIz h.right;have cA:∀i,i<W.zOa.n->(i∈(zAH W (qf W)).map (fun x=>x.1.toNat)↔∃m,m<qf W/\∃b,((i:Int),b)∈yf W (zc W m)):=by
   intro i hi;rw[List.mem_map];constructor
   ·rintro⟨x,hx,e⟩;have:=(dA x hx).2.1;obtain⟨m,hm,hx⟩:=(aA x).1 hx;exact⟨m,hm,x.2,by rw[show(i:Int)=x.1 by omega];exact hx⟩
   ·rintro⟨m,hm,b,hx⟩;exact⟨(i,b),(aA _).2 ⟨m,hm,hx⟩,by simp⟩
  have:=zB1 (P:=fun i=>i∈(zAH W (qf W)).map (fun x=>x.1.toNat)) (Q:=fun i=>¬qJ (W.zOa.s i)/\¬Has W.zOa.hn W.zOa.h i) (n:=W.zOa.n) (fun i hi=>(cA i hi).trans (oA i hi));omega
end Go.Proofs.YtgabgheflgjgiaaGreatDoor
