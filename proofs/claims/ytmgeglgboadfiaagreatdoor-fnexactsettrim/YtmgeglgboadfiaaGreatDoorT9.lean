/- What spec.l02Ptrs leaves of a right tree: a new row of all its pointers. -/
import Derived.Test.YtmgeglgboadfiaaGreatDoorT8
import Derived.Test.YtmgeglgboadfiaaGreatDoorT3
set_option linter.unusedVariables false
set_option maxRecDepth 20000
set_option maxHeartbeats 4000000
namespace Go.Proofs.YtmgeglgboadfiaaGreatDoor
open Go.RowKit
def zDx(p:zJ)(rs rb:Int)(s:zL)(j:Nat):List(Int×Int):=(rs,rb) :: zAv p s j
def zC3(p:zJ)(rs rb:Int)(s:zL)(j i:Nat):List(Int×Int):=zDx p rs rb s j ++ ((zb s j,zu s j) :: kidsUp(zb(p.s(zb s j).toNat))(zu(p.s(zb s j).toNat)) i)
theorem zOk{p:zJ}{rs rb:Int}(hz:¬Nil rs rb):zT p rs rb=zDx p rs rb(p.s rs.toNat) 8:=if_neg hz
theorem zLl{p:zJ}{rs rb:Int}{s:zL}{j:Nat}(hn:¬Nil(zb s j)(zu s j)):zDx p rs rb s(j+1)=zC3 p rs rb s j 8:=by
 unfold zDx zC3 zDx;rw [zAv,zLk hn];rfl
theorem zLL{p:zJ}{rs rb:Int}{s:zL}{j:Nat}(hn:Nil(zb s j)(zu s j)):zDx p rs rb s(j+1)=zDx p rs rb s j:=by
 unfold zDx;rw [zAv,show zEu p(zb s j)(zu s j) = [] from if_pos hn,List.append_nil]
theorem zH9(p:zJ)(rs rb:Int)(s:zL)(j:Nat):zC3 p rs rb s j 0=zDx p rs rb s j ++ [(zb s j,zu s j)]:=rfl
theorem zNp{p:zJ}{rs rb:Int}{s:zL}{j i:Nat}(hn:Nil(zb(p.s(zb s j).toNat) i)(zu(p.s(zb s j).toNat) i)):zC3 p rs rb s j(i+1)=zC3 p rs rb s j i:=by
 unfold zC3;rw [kidsUp,show one(zb(p.s(zb s j).toNat) i)(zu(p.s(zb s j).toNat) i) = [] from if_pos hn,List.append_nil]
theorem zN7{p:zJ}{rs rb:Int}{s:zL}{j i:Nat}(hn:¬Nil(zb(p.s(zb s j).toNat) i)(zu(p.s(zb s j).toNat) i)):zC3 p rs rb s j(i+1)=zC3 p rs rb s j i ++ [(zb(p.s(zb s j).toNat) i,zu(p.s(zb s j).toNat) i)]:=by
 unfold zC3;rw [kidsUp,show one(zb(p.s(zb s j).toNat) i)(zu(p.s(zb s j).toNat) i) = [(zb(p.s(zb s j).toNat) i,zu(p.s(zb s j).toNat) i)] from if_neg hn,List.append_assoc];rfl
theorem zNd(p:zJ)(rs rb:Int)(s:zL){j:Nat}(hj:j<=8):(zDx p rs rb s j).length<=73:=by
 have:=zEc p s j;simp only [zDx,List.length_cons];omega
theorem zOp(p:zJ)(rs rb:Int)(s:zL){j i:Nat}(hj:j<=8)(hi:i<=8):(zC3 p rs rb s j i).length<=90:=by
 have h1:=zNd p rs rb s hj;have h2:=zAh(zb(p.s(zb s j).toNat))(zu(p.s(zb s j).toNat)) i;simp only [zC3,List.length_append,List.length_cons];omega
theorem zw.next{w2:World}{base g aA:Nat}{l:List(Int×Int)}{x y:Int}(h:w2.ownsRow base 61 2(.slice(some ⟨g,0,none⟩)(l.length+1) aA)(l.length+1)(pcl l ++ [.int .i64 x,.int .i64 y])):zw w2 base(.slice(some ⟨g,0,none⟩)(l.length+1) aA)(l ++ [(x,y)]):=by
 unfold zw;rw [zA9,List.length_append];exact h
theorem yf(v0 v1:Value)(lo hi:Nat)(p:zJ)(xs xb:Int)(w:World)(h1:zy w lo hi v0 v1 p)(hR:zv p)(hT:qF p xs xb) :
  Calls Tryz.prog 141 #[.agg #[v0,v1],.agg #[.int .i64 xs,.int .i64 xb]] w fun e w'=>∃v,e = .returned v/\zw w' w.heap.size v(zT p xs xb)/\Below w.heap.size w w':=by
 have Hp:=zE h1;have HR:=zE hR;have HT:=zE hT;obtain⟨a,c,a',c',rfl,rfl⟩:∃a c a' c',v0 = .slice a p.n c/\v1 = .slice a' p.hn c':=by
  obtain⟨⟨_,a,c,h1,_⟩,⟨_,a',c',h3,_⟩⟩:=h1;exact⟨a,c,a',c',h1,h3⟩
 clear h1 hR hT;have iB:=zBx w(.slice a p.n c)(.slice a' p.hn c')(.int .i64 xs)(.int .i64 xb) 33 61;obtain⟨i0,hi0,hzz⟩:=Option.map_eq_some_iff.1 zA1;simp only [Prod.mk.injEq] at hzz;have HI:=zE(And.intro hi0 hzz);clear hi0 hzz;go_enter Tryz.func141,Tryz.ntmps141;have kA:=World.ownsRow_lit(e:=61)(size:=2)(base:=w.heap.size+2)((w.alloc(.cells #[.slice a p.n c,.slice a' p.hn c'] 33)).alloc(.cells #[.int .i64 xs,.int .i64 xb] 61)) #[] 0(by rw [iB.2.2.2];omega)(by unfold maxLen;omega) rfl;rw [iB.2.2.2] at kA;have bD:=iB.2.1.zRJ(zC _(.cells #[] 61));obtain⟨⟨y0,y1⟩,⟨y2,y3⟩⟩:=bD;go_wp2_with fail;clear y0 y1 y2 y3;generalize(w.alloc(.cells #[.slice a p.n c,.slice a' p.hn c'] 33)).alloc(.cells #[.int .i64 xs,.int .i64 xb] 61)=W at iB kA ⊢;obtain⟨hB,hX,hba,hz⟩:=iB;have cA:=zC W(.cells #[] 61);have fC:=zE(show zw(W.alloc(.cells #[] 61))(w.heap.size+2)(.slice(some ⟨w.heap.size+2,0,none⟩) 0 0) [] from kA);have sB:=hB.zRJ cA;have cC:=hX.zRJ cA;have aC:=zA hba cA;have oC:(W.alloc(.cells #[] 61)).heap.size=w.heap.size+3:=by rw [World.size_alloc,hz]
 clear kA hB hX hba cA;generalize W.alloc(.cells #[] 61)=W0 at fC sB cC aC oC ⊢;refine(ye xs xb W0).mono ?_;rintro e w1 ⟨⟨t,rfl,ht⟩,hb1⟩;have oB:=zE(sB.zRJ hb1);have lB:=zE(cC.zRJ hb1);have bC:=zE(fC.out.zRJ hb1);have vB:=zA aC hb1;have aD:w.heap.size+3<=w1.heap.size:=by have:=hb1.size;omega
 clear sB cC aC hb1 fC oC hz;by_cases hn:Nil xs xb
 ·have HN:=zE hn;obtain rfl:t=true:=ht.2 hn;clear ht hn;go_wp2;go_ret;refine⟨_,rfl,?_,vB⟩;rw [show zT p xs xb = [] from if_pos HN.out];exact bC.out.mono(by omega)
 ·have HN:=zE hn;obtain rfl:t=false:=zQ ht hn;clear ht hn;have cB:zAy p xs xb:=(HT.out.resolve_left HN.out).1;have dB:=zE(HT.out.resolve_left HN.out).2.1.1;have h8:(p.s xs.toNat).kn=8:=by rcases zDD HR.out cB.1 with h | h;(have:=cB.2.1;omega);exact h
  obtain⟨k,rfl⟩:=Int.eq_ofNat_of_zero_le cB.1.2.1;have hk:k<p.n:=(by have:=cB.1.2.2.1;omega);have eD:(k:Int)<(p.n:Int):=(by omega);rw [Int.toNat_natCast] at h8 dB;have H8:=zE h8;clear cB;obtain⟨b,off,ka,kc,rfl,hsc⟩:=Hp.out.1.cells hk;have lC:Hid(zR w lo hi(.slice ka 8 kc) 8(p.s k).ks(p.s k).kb):=(by have:=hsc.slot.2.1;rw [h8] at this;exact this);have nB:=zE hsc;clear hsc h8;obtain⟨⟨x0,x1⟩,⟨x2,x3⟩⟩:=oB.out;obtain⟨⟨y0,y1⟩,⟨y2,y3⟩⟩:=lB.out;have cA:=zC w1(.cells #[.int .i64(k:Int),.int .i64 xb] 61);have fA:=zE(bC.out.zRJ cA);have sA:=zE(oB.out.zRJ cA);have mC:=zE(lB.out.zRJ cA);have jA:=zA vB cA;have kB:(w1.alloc(.cells #[.int .i64(k:Int),.int .i64 xb] 61)).heap.size=w1.heap.size+1:=World.size_alloc _ _;have rA:=zE(World.news_of_block(heap_alloc_last w1(.cells #[.int .i64(k:Int),.int .i64 xb] 61)));clear cA bC oB lB vB;go_wp2_with(first
   |(at_builtin;refine wpList_append_lies _ rfl _ _ 62 rfl(w.heap.size+2) 61 i0(.agg #[.int .i64 0,.int .i64 0]) 2 16(by kernel_rfl) HI.out.1 HI.out.2.1 HI.out.2.2.1 HI.out.2.2.2 rfl(by decide)(.slice(some ⟨w.heap.size+2,0,none⟩) 0 0) 0 [] rfl fA.out ⟨w1.heap.size,0,none⟩ 1 1 [.int .i64(k:Int),.int .i64 xb] rfl rfl rA.out(by simp [Value.oneCell'])(by decide)(by unfold maxLen;omega)(by omega)(by omega) _ rfl ?_;intro g4 dA w4 bA aA mA lA;have nA:Below w.heap.size w w4:=jA.grown aA jA.size(fun q hq=>(by have:=(fA.out.lt hq).1;omega));have tA:=zE(sA.out.grownT aA(fun q hq=>by have:=(fA.out.lt hq).1;omega));have jC:=zE(mC.out.grownT aA(fun q hq=>by have:=(fA.out.lt hq).1;omega));have z0:=tA.out.1.1;have z1:=jC.out.1.1;have z2:=(nB.out.zRJ nA).c1;rw [H8.out] at z2)
   |go_in)
  have gB:=zE(show zw w4(w.heap.size+2)(.slice(some ⟨g4,0,none⟩) 1 dA)(zDx p k xb(p.s k) 0)from bA);have fB:w.heap.size+2<=w4.heap.size:=(by have:=aA.size;omega);clear bA aA mA lA fA sA mC jA rA kB aD
  go_loopw [5,7](fun sv i wr=>∃(j:Nat)(sa:Option Addr)(sc:Nat),j<=8/\i = .int .i64 j/\sv = .slice sa(zDx p k xb(p.s k) j).length sc/\zw wr(w.heap.size+2) sv(zDx p k xb(p.s k) j)/\zc wr w.heap.size(.slice(some ⟨b,off,none⟩) p.n c)(.slice a' p.hn c')/\Below w.heap.size w wr/\w.heap.size+2<=wr.heap.size)(fun _ i _=>8 - (intOf i).toNat)
  case atStart=>exact⟨0,some ⟨g4,0,none⟩,dA,Nat.zero_le _,rfl,rfl,gB.out,tA.out,nA,fB⟩
  case round=>
   obtain⟨j,sa,sc,hj,rfl,rfl,hrow,hbox,hbr,hzr⟩:=hrel;have eA:=zE hrow;have gA:=zE hbox;have sC:=zNd p k xb(p.s k) hj;clear hrow hbox gB tA jC nA z0 z1 z2 x0 x1 x2 x3 y0 y1 y2 y3 fB;by_cases bB:j<8
   ·have cD:(j:Int)<8:=(by omega);obtain⟨tb,tof,rfl,q0,q1⟩:=(lC.out.zRJ hbr).cellsT bB;rw [<-zCz H8.out bB] at q0;rw [<-zEi H8.out bB] at q1;go_wp2_with fail;refine(ye(zb(p.s k) j)(zu(p.s k) j) wr).mono ?_;rintro e W ⟨⟨t,rfl,ht⟩,hb⟩;have vA:=zA hbr hb;have pA:=zE(gA.out.zRJ hb);have oA:=zE(eA.out.zRJ hb);have mB:w.heap.size+2<=W.heap.size:=(by have:=hb.size;omega);have kC:=(hb.cell(zD q0)).trans q0;have iC:=(hb.cell(zD q1)).trans q1;clear q0 q1 hbr hb eA gA hzr;by_cases iA:Nil(zb(p.s k) j)(zu(p.s k) j)
    ·have aB:=zE iA;obtain rfl:t=true:=ht.2 iA;clear ht iA;go_wp2;go_roundw
     case rel=>exact⟨j+1,sa,sc,by omega,by go_num,by rw [zLL aB.out],by rw [zLL aB.out];exact oA.out,pA.out,vA,mB⟩
     case measure=>simp [intOf];omega
    ·have aB:=zE iA;obtain rfl:t=false:=zQ ht iA;clear ht iA;have jB:zAy p(zb(p.s k) j)(zu(p.s k) j):=by
      rcases dB.out j bB with h | h
      ·exact absurd h aB.out
      ·exact h.1
     obtain⟨m,hm⟩:=Int.eq_ofNat_of_zero_le jB.1.2.1;have tC:m<p.n:=(by have:=jB.1.2.2.1;omega);have vC:(m:Int)<(p.n:Int):=(by omega);have tB:(zb(p.s k) j).toNat=m:=(by rw [hm];rfl);have eC:(p.s m).kn=8:=by
      have h0:=jB.2.1;have h1:=zDD HR.out jB.1;rw [tB] at h0 h1;rcases h1 with h | h
      ·omega
      ·exact h
     have pB:=zE eC;obtain⟨_,_,ua,uc,ha,hsm⟩:=Hp.out.1.cells tC;simp only [Option.some.injEq,Addr.mk.injEq,and_true] at ha;obtain⟨rfl,rfl⟩:=ha;have dD:Hid(zR w lo hi(.slice ua 8 uc) 8(p.s m).ks(p.s m).kb):=(by have:=hsm.slot.2.1;rw [eC] at this;exact this);have pC:=zE hsm;have Hm:=zE hm;have dC:=zE tB;have cA:=zC W(.cells #[.int .i64(zb(p.s k) j),.int .i64(zu(p.s k) j)] 61);have fA:=zE(oA.out.zRJ cA);have sA:=zE(pA.out.zRJ cA);have jA:=zA vA cA;have kB:(W.alloc(.cells #[.int .i64(zb(p.s k) j),.int .i64(zu(p.s k) j)] 61)).heap.size=W.heap.size+1:=World.size_alloc _ _;have rA:=zE(World.news_of_block(heap_alloc_last W(.cells #[.int .i64(zb(p.s k) j),.int .i64(zu(p.s k) j)] 61)));clear hsm eC hm tB cA oA pA vA jB;go_wp2_with(first
      |(at_builtin;refine wpList_append_lies _ rfl _ _ 62 rfl(w.heap.size+2) 61 i0(.agg #[.int .i64 0,.int .i64 0]) 2 16(by kernel_rfl) HI.out.1 HI.out.2.1 HI.out.2.2.1 HI.out.2.2.2 rfl(by decide)(.slice sa(zDx p k xb(p.s k) j).length sc)(zDx p k xb(p.s k) j).length(pcl(zDx p k xb(p.s k) j)) rfl fA.out ⟨W.heap.size,0,none⟩ 1 1 [.int .i64(zb(p.s k) j),.int .i64(zu(p.s k) j)] rfl rfl rA.out(by simp [Value.oneCell'])(by decide)(by unfold maxLen;omega)(by omega)(by omega) _ rfl ?_;intro g4 dA w4 bA aA mA lA)
      |fail)
     have gB:Hid(zw w4(w.heap.size+2)(.slice(some ⟨g4,0,none⟩)((zDx p k xb(p.s k) j).length+1) dA)(zC3 p k xb(p.s k) j 0)):=by
      rw [zH9];exact zw.next bA
     have nA:Below w.heap.size w w4:=jA.grown aA jA.size(fun q hq=>by have:=(fA.out.lt hq).1;omega);have tA:=zE(sA.out.grownT aA(fun q hq=>by have:=(fA.out.lt hq).1;omega));have fB:w.heap.size+2<=w4.heap.size:=(by have:=aA.size;omega);clear bA aA mA lA fA sA jA rA kC iC kB;obtain⟨_,_,ha,q0,q1⟩:=(lC.out.zRJ nA).cellsT bB;simp only [Option.some.injEq,Addr.mk.injEq,and_true] at ha;obtain⟨rfl,rfl⟩:=ha;rw [<-zCz H8.out bB,Hm.out] at q0;obtain⟨r0,r1,r2,_⟩:=pC.out.zRJ nA;rw [pB.out] at r1;obtain⟨⟨x0,x1⟩,⟨x2,x3⟩⟩:=tA.out
     go_quiet(fail)
     go_wp2
     go_loopw [5,9](fun sv i wr=>∃(i':Nat)(sa:Option Addr)(sc:Nat),i'<=8/\i = .int .i64 i'/\sv = .slice sa(zC3 p k xb(p.s k) j i').length sc/\zw wr(w.heap.size+2) sv(zC3 p k xb(p.s k) j i')/\zc wr w.heap.size(.slice(some ⟨b,off,none⟩) p.n c)(.slice a' p.hn c')/\Below w.heap.size w wr/\w.heap.size+2<=wr.heap.size)(fun _ i _=>8 - (intOf i).toNat)
     case atStart=>exact⟨0,some ⟨g4,0,none⟩,dA,Nat.zero_le _,rfl,by rw [zH9,List.length_append];rfl,gB.out.zRJ(zg(Below.refl _ _) _),tA.out.zRJ(zg(Below.refl _ _) _),zg nA _,fB⟩
     case round=>
      obtain⟨i,sa,sc,hi8,rfl,rfl,hrow,hbox,hbr,hzr⟩:=hrel;have eA:=zE hrow;have gA:=zE hbox;have nC:=zOp p k xb(p.s k)(show j<=8 by omega) hi8;clear hrow hbox gB tA nA x0 x1 x2 x3 q0 q1 r0 r1 r2 fB;by_cases rB:i<8
      ·have rC:(i:Int)<8:=(by omega);obtain⟨ub,uof,rfl,q0,q1⟩:=(dD.out.zRJ hbr).cellsT rB;rw [<-zCz pB.out rB] at q0;rw [<-zEi pB.out rB] at q1;go_wp2_with fail;refine(ye(zb(p.s m) i)(zu(p.s m) i) wr).mono ?_;rintro e W ⟨⟨t,rfl,ht⟩,hb⟩;have vA:=zA hbr hb;have pA:=zE(gA.out.zRJ hb);have oA:=zE(eA.out.zRJ hb);have mB:w.heap.size+2<=W.heap.size:=(by have:=hb.size;omega);have kC:=(hb.cell(zD q0)).trans q0;have iC:=(hb.cell(zD q1)).trans q1;clear q0 q1 hbr hb eA gA hzr;by_cases iA:Nil(zb(p.s m) i)(zu(p.s m) i)
       ·have gC:=zE iA;obtain rfl:t=true:=ht.2 iA;clear ht iA;have es:zC3 p k xb(p.s k) j(i+1)=zC3 p k xb(p.s k) j i:=zNp(by rw [dC.out];exact gC.out);have eB:=zE es;clear es;go_wp2;go_roundw
        case rel=>exact⟨i+1,sa,sc,by omega,by go_num,by rw [eB.out],by rw [eB.out];exact oA.out,pA.out,vA,mB⟩
        case measure=>simp [intOf];omega
       ·have gC:=zE iA;obtain rfl:t=false:=zQ ht iA;clear ht iA;have es:zC3 p k xb(p.s k) j(i+1)=zC3 p k xb(p.s k) j i ++ [(zb(p.s m) i,zu(p.s m) i)]:=(by have:=zN7(p:=p)(rs:=(k:Int))(rb:=xb)(s:=p.s k)(j:=j)(i:=i)(by rw [dC.out];exact gC.out);rw [dC.out] at this;exact this);have eB:=zE es;clear es;have cA:=zC W(.cells #[.int .i64(zb(p.s m) i),.int .i64(zu(p.s m) i)] 61);have fA:=zE(oA.out.zRJ cA);have sA:=zE(pA.out.zRJ cA);have jA:=zA vA cA;have kB:(W.alloc(.cells #[.int .i64(zb(p.s m) i),.int .i64(zu(p.s m) i)] 61)).heap.size=W.heap.size+1:=World.size_alloc _ _;have rA:=zE(World.news_of_block(heap_alloc_last W(.cells #[.int .i64(zb(p.s m) i),.int .i64(zu(p.s m) i)] 61)));clear cA oA pA vA;go_wp2_with(first
         |(at_builtin;refine wpList_append_lies _ rfl _ _ 62 rfl(w.heap.size+2) 61 i0(.agg #[.int .i64 0,.int .i64 0]) 2 16(by kernel_rfl) HI.out.1 HI.out.2.1 HI.out.2.2.1 HI.out.2.2.2 rfl(by decide)(.slice sa(zC3 p k xb(p.s k) j i).length sc)(zC3 p k xb(p.s k) j i).length(pcl(zC3 p k xb(p.s k) j i)) rfl fA.out ⟨W.heap.size,0,none⟩ 1 1 [.int .i64(zb(p.s m) i),.int .i64(zu(p.s m) i)] rfl rfl rA.out(by simp [Value.oneCell'])(by decide)(by unfold maxLen;omega)(by omega)(by omega) _ rfl ?_;intro g4 dA w4 bA aA mA lA)
         |go_in)
        go_roundw
        case rel=>exact⟨i+1,some ⟨g4,0,none⟩,dA,by omega,by go_num,by rw [eB.out,List.length_append];rfl,by rw [eB.out];exact zw.next bA,sA.out.grownT aA(fun q hq=>by have:=(fA.out.lt hq).1;omega),jA.grown aA jA.size(fun q hq=>by have:=(fA.out.lt hq).1;omega),by have:=aA.size;omega⟩
        case measure=>simp [intOf];omega
      ·obtain rfl:i=8:=(by omega);go_wp2;go_roundw
       case rel=>exact⟨j+1,sa,sc,by omega,by go_num,by rw [zLl aB.out],by rw [zLl aB.out];exact eA.out,gA.out,hbr,hzr⟩
       case measure=>simp [intOf];omega
   ·obtain rfl:j=8:=(by omega);go_wp2;go_ret;exact⟨_,rfl,by rw [zOk HN.out];exact eA.out.mono(by omega),hbr⟩
open Classical in
noncomputable def roomN(f:Nat->zL):Nat->Nat
 |0=>0
 |k+1=>roomN f k+(if qG(f k)then 1 else 0)
theorem zGI{f:Nat->zL}{k:Nat}(h:qG(f k)):roomN f(k+1)=roomN f k+1:=by simp [roomN,h]
theorem zFb{f:Nat->zL}{k:Nat}(h:¬qG(f k)):roomN f(k+1)=roomN f k:=by simp [roomN,h]
theorem zHs(f:Nat->zL):∀k,roomN f k<=k
 |0=>Nat.le_refl _
 |k+1=>by
  have:=zHs f k;by_cases h:qG(f k)
  ·rw [zGI h];omega
  ·rw [zFb h];omega
open Classical in
noncomputable def zNG(p:zJ):Int:=if zv p then(roomN p.s p.n:Int)else 0
structure zEq where
 zRT:Int
 time:Int
 rs:Int
 rb:Int
 dn:Nat
 ds:Nat->Int
 db:Nat->Int
def zQ5(s:zm):zEq:=⟨s.zRT,s.time,s.rs,s.rb,s.dn,s.ds,s.db⟩
def zQy(t:Int)(s:qC):zEq:=⟨s.zRT,t,s.rs,s.rb,s.dn,s.ds,s.db⟩
def zO(W:zH)(i:Nat):zEq:=if i<W.pn then zQ5(W.zRP i)else zQy W.time(W.zRS(i - W.pn))
def zq(W:zH):Nat:=W.pn+W.sn
theorem qS{W:zH}{i:Nat}(h:i<W.pn):zO W i=zQ5(W.zRP i):=if_pos h
theorem yH(W:zH)(i:Nat):zO W(W.pn+i)=zQy W.time(W.zRS i):=by
 unfold zO;rw [if_neg(by omega),show W.pn+i - W.pn=i by omega]
def yP:zm:=⟨0,ByteArray.empty,ByteArray.empty,0,0,0,0,0,fun _=>0,fun _=>0⟩
open Classical in
noncomputable def zN(W:zH)(x:Int):zm:=if h:∃k,yA W x k then W.zRP h.choose else yP
theorem yB{W:zH}{x:Int}{k:Nat}(h:yA W x k):zN W x=W.zRP k:=by
 unfold zN;rw [dif_pos ⟨k,h⟩,yA.uniq(Exists.choose_spec(⟨k,h⟩:∃k,yA W x k)) h]
theorem zFX{W:zH}{x:Int}(h:∀k,k<W.pn->(W.zRP k).id≠x):zN W x=yP:=by
 unfold zN;rw [dif_neg];rintro⟨k,hk⟩;exact h k hk.1 hk.2.1
theorem zGC{W:zH}{x:Int}:∀{n:Nat},n<=W.pn->(∃k,k<n/\(W.zRP k).id=x)->∃k,yA W x k
 |0,_,⟨k,hk,_⟩=>absurd hk(Nat.not_lt_zero _)
 |n+1,hn,⟨k,hk,e⟩=>by
  by_cases h:∃j,j<n/\(W.zRP j).id=x
  ·exact zGC(by omega) h
  ·have:k=n:=by
    by_cases h':k<n
    ·exact absurd ⟨k,h',e⟩ h
    ·omega
   subst this;exact⟨k,by omega,e,fun j hj he=>h ⟨j,hj,he⟩⟩
def yV(W:zH)(m:zEq):List(Int×Int):=zT W.zRQ m.rs m.rb
noncomputable def zCr(W:zH)(m:zEq):List(Int×Int):=zT W.zRQ(zN W m.zRT).rs(zN W m.zRT).rb
def zAQ(l m:List(Int×Int)):List(Int×Int):=l.filter(fun x=>decide(x∉m))
def qQ(l m:List(Int×Int)):List(Int×Int):=l.filter(fun x=>decide(x∈m))
def zAS(l:List(Int×Int))(t:Int):List(Int×Int):=l.filter(fun x=>decide(t<x.2))
noncomputable def zFP(W:zH)(m:zEq):List(Int×Int):=zAQ(yV W m)(zCr W m)
noncomputable def yD(W:zH)(m:zEq):List(Int×Int):=zAS(yV W m)(zN W m.zRT).time
def zDZ(n:Nat)(f g:Nat->Int)(l:List(Int×Int)):Prop:=zES n f g l.length(zf l)(zh l)
def zNf(now old:List(Int×Int))(t tm:Int):Prop:=∀x,x∈now->x.2<=tm/\(x∈old↔x.2<=t)
def zJF(W:zH)(m:zEq):Prop:=zDZ m.dn m.ds m.db(zAQ(zCr W m)(yV W m))/\zNf(yV W m)(zCr W m)(zN W m.zRT).time m.time
def zQa(W:zH)(m:zEq):Prop:=m.rb<=m.time/\zDZ(yD W m).length(zf(yD W m))(zh(yD W m))(zFP W m)/\zDZ m.dn m.ds m.db(zAQ(zCr W m)(qQ(yV W m)(zCr W m)))
theorem zNt(l m:List(Int×Int)):zAQ m(qQ l m)=zAQ m l:=by
 unfold zAQ qQ;refine List.filter_congr fun x hx=>?_
 rw [decide_eq_decide];simp only [List.mem_filter,decide_eq_true_eq];exact⟨fun h h'=>h ⟨h',hx⟩,fun h h'=>h h'.1⟩
theorem yE{l:List(Int×Int)}{i:Nat}(h:i<l.length):l.getD i(0,0)=l[i]:=by
 rw [List.getD_eq_getElem?_getD,List.getElem?_eq_getElem h,Option.getD_some]
theorem zBT{l:List(Int×Int)}{x y:Int}:PIn l.length(zf l)(zh l) x y↔(x,y)∈l:=by
 constructor
 ·rintro⟨j,hj,e1,e2⟩;unfold zf at e1;unfold zh at e2;rw [yE hj] at e1 e2;have:l[j]=(x,y):=Prod.ext e1 e2;exact this▸List.getElem_mem hj
 ·intro h;obtain⟨j,hj,e⟩:=List.getElem_of_mem h;exact⟨j,hj,by unfold zf;rw [yE hj,e],by unfold zh;rw [yE hj,e]⟩
structure zBI(W:zH):Prop where
 right:zv W.zRQ
 ids:∀k,k<W.pn->(W.zRP k).zRT<(W.zRP k).id
 tree:∀i,i<zq W->qF W.zRQ(zO W i).rs(zO W i).rb
 time:∀i,i<zq W->0<=(zO W i).time
theorem zAW{p:zJ}{rs rb:Int}(hR:zv p)(hT:qF p rs rb){x:Int×Int}(hx:x∈zT p rs rb):zr p x.1 x.2/\x.2<=rb/\¬Has p.hn p.h x.1:=by
 rcases(zFv hR).2 hT with hz | ⟨hP,_,hA⟩
 ·rw [zT,if_pos hz] at hx;simp at hx
 ·have:=zC2 hR hP x hx;exact⟨this.1,this.2,hA.2 x hx⟩
theorem zAe{p:zJ}{rs rb:Int}(hR:zv p)(hT:qF p rs rb):(zT p rs rb).Nodup:=by
 rcases(zFv hR).2 hT with hz | ⟨hP,_,hA⟩
 ·rw [zT,if_pos hz];exact List.nodup_nil
 ·exact hA.1
theorem zBI.old{W:zH}(h:zBI W)(x:Int):qF W.zRQ(zN W x).rs(zN W x).rb:=by
 by_cases hx:∃k,yA W x k
 ·obtain⟨k,hk⟩:=hx;rw [yB hk];have:=h.tree k(by unfold zq;have:=hk.1;omega);rw [qS hk.1] at this;exact this
 ·have:zN W x=yP:=by
   unfold zN;rw [dif_neg hx]
  rw [this];exact Or.inl ⟨rfl,rfl⟩
theorem zN0{p:zJ}{x y:Int}(hR:zv p)(h:zr p x y):zE6 x y:=by
 have hf:=qV hR h;have h1:=hR.1;obtain⟨a,b,c,d⟩:=h;have:=hf.1.2;exact⟨b,by omega,a,by omega⟩
theorem zBK{p:zJ}(hR:zv p){l:List(Int×Int)}(h:∀x,x∈l->zr p x.1 x.2)(hn:l.Nodup)(hl:l.length<=200):qx l.length(zf l)(zh l):=by
 have hs:=(zGJ h).2 hn;refine⟨hl,fun i hi=>?_,fun i hi k hk=>?_⟩
 ·unfold zf zh;rw [yE hi];exact zN0 hR(h _(List.getElem_mem hi))
 ·unfold zf;rw [yE hi,yE(show k<l.length by omega)];unfold yK List.Nodup at hs;rw [List.pairwise_map] at hs;exact List.pairwise_iff_getElem.1 hs k i(by omega) hi hk
theorem zJ1{p:zJ}(hR:zv p){T:List(Int×Int)}(hT:∀x,x∈T->zr p x.1 x.2)(hn:T.Nodup)(hl:T.length<=200)(P Q:Int×Int->Bool) :
  zDZ(T.filter P).length(zf(T.filter P))(zh(T.filter P))(T.filter Q)↔∀x,x∈T->P x=Q x:=by
 constructor
 ·rintro⟨_,_,hlen,hin⟩;have h1:∀x,x∈T->P x=true->Q x=true:=fun x hx hp=>by
   have hm:x∈T.filter P:=List.mem_filter.2 ⟨hx,hp⟩;obtain⟨j,hj,e⟩:=List.getElem_of_mem hm;have:=hin j hj;rw [zBT] at this;unfold zf zh at this;rw [yE hj,e] at this;exact(List.mem_filter.1 this).2
  have h2:(T.filter Q).filter P=T.filter P:=by
   rw [List.filter_filter];refine List.filter_congr fun x hx=>?_
   cases hp:P x
   ·rfl
   ·rw [h1 x hx hp];rfl
  have h3:((T.filter Q).filter P).length=(T.filter Q).length:=(by rw [h2,hlen]);rw [List.length_filter_eq_length_iff] at h3;intro x hx;cases hq:Q x
  ·cases hp:P x
   ·rfl
   ·rw [h1 x hx hp] at hq;exact absurd hq(by simp)
  ·exact h3 x(List.mem_filter.2 ⟨hx,hq⟩)
 ·intro h;have e:T.filter P=T.filter Q:=List.filter_congr h;rw [e];have aA:qx(T.filter Q).length(zf(T.filter Q))(zh(T.filter Q)):=zBK hR(fun x hx=>hT x(List.mem_filter.1 hx).1)(hn.filter _)(Nat.le_trans(List.length_filter_le _ _) hl);exact⟨aA,aA,rfl,fun i hi=>⟨i,hi,rfl,rfl⟩⟩
theorem zID{W:zH}(h:zBI W){i:Nat}(hi:i<zq W):zQa W(zO W i)↔zJF W(zO W i):=by
 generalize hm:zO W i=m;have hT:=h.tree i hi;have cA:=h.time i hi;rw [hm] at hT cA;have bA:(yV W m).length<=200:=by have:=qM W.zRQ m.rs m.rb;unfold yV;omega
 have fA:∀x,x∈yV W m->zr W.zRQ x.1 x.2:=fun x hx=>(zAW h.right hT hx).1
 unfold zQa zJF;rw [zNt];have key:zDZ(yD W m).length(zf(yD W m))(zh(yD W m))(zFP W m)↔∀x,x∈yV W m->(x∈zCr W m↔x.2<=(zN W m.zRT).time):=by
  unfold yD zFP zAS zAQ;rw [zJ1 h.right fA(zAe h.right hT) bA];refine⟨fun hh x hx=>?_,fun hh x hx=>?_⟩
  ·have:=hh x hx;rw [decide_eq_decide] at this;constructor
   ·intro aA;by_cases eA:(zN W m.zRT).time<x.2
    ·exact absurd aA(this.1 eA)
    ·omega
   ·intro dA;by_cases aA:x∈zCr W m
    ·exact aA
    ·have:=this.2 aA;omega
  ·rw [decide_eq_decide];have:=hh x hx;constructor
   ·intro eA aA;have:=this.1 aA;omega
   ·intro aA;by_cases dA:x.2<=(zN W m.zRT).time
    ·exact absurd(this.2 dA) aA
    ·omega
 rw [key];constructor
 ·rintro⟨h1,h2,h3⟩;exact⟨h3,fun x hx=>⟨by have:=(zAW h.right hT hx).2.1;omega,h2 x hx⟩⟩
 ·rintro⟨h1,h2⟩;refine⟨?_,fun x hx=>(h2 x hx).2,h1⟩;by_cases hz:Nil m.rs m.rb
  ·rw [hz.2];exact cA
  ·have hr:(m.rs,m.rb)∈yV W m:=(by unfold yV zT;rw [if_neg hz];simp);exact(h2 _ hr).1
theorem zN8{W:zH}{m:zEq}(hS:zJF W m):yD W m=zFP W m:=by
 unfold yD zFP zAS zAQ;refine List.filter_congr fun x hx=>?_
 rw [decide_eq_decide];have:=(hS.2 x hx).2;constructor
 ·intro h1 h2;have:=this.1 h2;omega
 ·intro h1;by_cases h2:x.2<=(zN W m.zRT).time
  ·exact absurd(this.2 h2) h1
  ·omega
open Classical in
noncomputable def cnt(P:Nat->Prop):Nat->Nat
 |0=>0
 |k+1=>cnt P k+(if P k then 1 else 0)
theorem zCO{P Q:Nat->Prop}:∀{n:Nat},(∀i,i<n->(P i↔Q i))->cnt P n=cnt Q n
 |0,_=>rfl
 |n+1,h=>by
  unfold cnt;rw [zCO(fun i hi=>h i(by omega))];by_cases hp:P n
  ·rw [if_pos hp,if_pos((h n(by omega)).1 hp)]
  ·rw [if_neg hp,if_neg(fun hq=>hp((h n(by omega)).2 hq))]
theorem zOn{P Q:Nat->Prop}:∀{n:Nat},(∀i,i<n->P i->Q i)->cnt P n<=cnt Q n
 |0,_=>Nat.le_refl _
 |n+1,h=>by
  unfold cnt;have:=zOn(n:=n)(fun i hi=>h i(by omega));by_cases hp:P n
  ·rw [if_pos hp,if_pos(h n(by omega) hp)];omega
  ·rw [if_neg hp];omega
theorem zIG{P Q:Nat->Prop}:∀{n:Nat},(∀i,i<n->P i->Q i)->(cnt P n=cnt Q n↔∀i,i<n->(P i↔Q i))
 |0,_=>⟨fun _ i hi=>absurd hi(Nat.not_lt_zero _),fun _=>rfl⟩
 |n+1,h=>by
  refine⟨fun e=>?_,fun e=>zCO e⟩;have aA:=zOn(n:=n)(fun i hi=>h i(by omega));have ih:=zIG(n:=n)(fun i hi=>h i(by omega));unfold cnt at e;have hn:P n↔Q n:=by
   refine⟨h n(by omega),fun hq=>?_⟩;by_cases hp:P n
   ·exact hp
   ·rw [if_neg hp,if_pos hq] at e;omega
  have e':cnt P n=cnt Q n:=by
   by_cases hp:P n
   ·rw [if_pos hp,if_pos(hn.1 hp)] at e;omega
   ·rw [if_neg hp,if_neg(fun hq=>hp(hn.2 hq))] at e;omega
  intro i hi;by_cases e2:i=n
  ·subst e2;exact hn
  ·exact ih.1 e' i(by omega)
theorem zM0{P Q:Nat->Prop}:∀{n:Nat},(∀i,i<n->P i->¬Q i)->cnt(fun i=>P i\/Q i) n=cnt P n+cnt Q n
 |0,_=>rfl
 |n+1,h=>by
  unfold cnt;rw [zM0(fun i hi=>h i(by omega))];by_cases hp:P n
  ·rw [if_pos(Or.inl hp),if_pos hp,if_neg(h n(by omega) hp)];omega
  ·by_cases hq:Q n
   ·rw [if_pos(Or.inr hq),if_neg hp,if_pos hq];omega
   ·rw [if_neg(fun h=>h.elim hp hq),if_neg hp,if_neg hq];omega
theorem zNJ(P:Nat->Prop):∀n,cnt P n+cnt(fun i=>¬P i) n=n
 |0=>rfl
 |n+1=>by
  have:=zNJ P n;unfold cnt;by_cases hp:P n
  ·rw [if_pos hp,if_neg(fun h=>h hp)];omega
  ·rw [if_neg hp,if_pos hp];omega
theorem zHW{P:Nat->Prop}:∀{n:Nat},(∀i,i<n->¬P i)->cnt P n=0
 |0,_=>rfl
 |n+1,h=>by
  unfold cnt;rw [zHW(fun i hi=>h i(by omega)),if_neg(h n(by omega))]
theorem zNX:∀{n a:Nat},a<n->cnt(fun i=>i=a) n=1
 |0,a,h=>absurd h(Nat.not_lt_zero _)
 |n+1,a,h=>by
  unfold cnt;by_cases e:n=a
  ·subst e;rw [if_pos rfl,zHW(fun i hi=>by omega)]
  ·rw [if_neg e,zNX(by omega)]
theorem zFZ{n:Nat}:∀{l:List Nat},l.Nodup->(∀x,x∈l->x<n)->cnt(fun i=>i∈l) n=l.length
 |[],_,_=>zHW(fun i hi=>by simp)
 |a :: l,hn,hl=>by
  obtain⟨h1,h2⟩:=List.nodup_cons.1 hn;have e1:cnt(fun i=>i∈a :: l) n=cnt(fun i=>i=a\/i∈l) n:=zCO(fun i _=>List.mem_cons);have e2:cnt(fun i=>i=a\/i∈l) n=cnt(fun i=>i=a) n+cnt(fun i=>i∈l) n:=zM0(fun i _(e:i=a) hi=>h1(e▸hi));rw [e1,e2,zNX(hl a(by simp)),zFZ h2(fun x hx=>hl x(by simp [hx])),List.length_cons];omega
theorem zLe(f:Nat->zL):∀n,roomN f n=cnt(fun i=>qG(f i)) n
 |0=>rfl
 |n+1=>by unfold roomN cnt;rw [zLe f n]
theorem zOw{p:zJ}(hR:zv p):cnt(fun i=>Has p.hn p.h i) p.n=p.hn:=by
 have h:=hR.2.2;have hl:∀x,x∈(List.range p.hn).map(fun j=>(p.h j).toNat)->x<p.n:=by
  intro x hx;obtain⟨j,hj,rfl⟩:=List.mem_map.1 hx;have:=h j(List.mem_range.1 hj);have h1:=this.1;have h2:=this.2.1;omega
 have hn:((List.range p.hn).map(fun j=>(p.h j).toNat)).Nodup:=by
  unfold List.Nodup;rw [List.pairwise_map];refine List.Pairwise.imp_of_mem ?_(List.pairwise_lt_range);intro a b ha hb aA e;have h1:=h a(List.mem_range.1 ha);have h2:=h b(List.mem_range.1 hb);have:=h1.1;have:=h2.1;exact h2.2.2.2 ⟨a,aA,by omega⟩
 have:=zFZ hn hl;rw [List.length_map,List.length_range] at this;refine Eq.trans(zCO(fun i hi=>?_)) this;constructor
 ·rintro⟨j,hj,e⟩;exact List.mem_map.2 ⟨j,List.mem_range.2 hj,by rw [e];simp⟩
 ·intro hx;obtain⟨j,hj,e⟩:=List.mem_map.1 hx;have:=(h j(List.mem_range.1 hj)).1;exact⟨j,List.mem_range.1 hj,by omega⟩
theorem zK7{p:zJ}(hR:zv p):cnt(fun i=>¬qG(p.s i)/\¬Has p.hn p.h i) p.n+roomN p.s p.n+p.hn=p.n:=by
 have h1:=zNJ(fun i=>qG(p.s i)\/Has p.hn p.h i) p.n;have h2:cnt(fun i=>qG(p.s i)\/Has p.hn p.h i) p.n=cnt(fun i=>qG(p.s i)) p.n+cnt(fun i=>Has p.hn p.h i) p.n:=zM0(fun i hi hf=>by
  rintro⟨j,hj,e⟩;have:=(hR.2.2 j hj).2.2.1;rw [e] at this;simp only [Int.toNat_natCast] at this;exact this hf)
 rw [zOw hR,<-zLe] at h2;have h3:cnt(fun i=>¬(qG(p.s i)\/Has p.hn p.h i)) p.n=cnt(fun i=>¬qG(p.s i)/\¬Has p.hn p.h i) p.n:=zCO(fun i _=>not_or);omega
def zEn(W:zH):Prop:=∀i,i<W.zRQ.n->((∃m,m<zq W/\∃b,((i:Int),b)∈yV W(zO W m))↔(¬qG(W.zRQ.s i)/\¬Has W.zRQ.hn W.zRQ.h i))
def zGZ(W:zH):Prop:=∀i,i<zq W->∀j,j<i->∀x,x∈zFP W(zO W i)->∀y,y∈zFP W(zO W j)->x.1≠y.1
noncomputable def zn(W:zH):Nat->List(Int×Int)
 |0=>[]
 |k+1=>zn W k ++ yD W(zO W k)
def zF2(W:zH):Prop:=(zn W(zq W)).Nodup/\(zn W(zq W)).length+roomN W.zRQ.s W.zRQ.n+W.zRQ.hn=W.zRQ.n
theorem zDQ{W:zH}{x:Int×Int}:∀{k:Nat},x∈zn W k↔∃i,i<k/\x∈yD W(zO W i)
 |0=>by simp [zn]
 |k+1=>by
  unfold zn;rw [List.mem_append,zDQ];constructor
  ·rintro(⟨i,hi,h⟩ | h)
   ·exact⟨i,by omega,h⟩
   ·exact⟨k,by omega,h⟩
  ·rintro⟨i,hi,h⟩;by_cases e:i=k
   ·subst e;exact Or.inr h
   ·exact Or.inl ⟨i,by omega,h⟩
theorem zG1{W:zH}:∀{k:Nat},(∀i,i<k->(yD W(zO W i)).Nodup)->((zn W k).Nodup↔∀i,i<k->∀j,j<i->∀x,x∈yD W(zO W i)->x∉yD W(zO W j))
 |0,_=>⟨fun _ i hi=>absurd hi(Nat.not_lt_zero _),fun _=>List.nodup_nil⟩
 |k+1,hy=>by
  unfold zn;rw [List.nodup_append,zG1(fun i hi=>hy i(by omega))];constructor
  ·rintro⟨h1,h2,h3⟩ i hi j hj x hx hx';by_cases e:i=k
   ·subst e;exact h3 x(zDQ.2 ⟨j,hj,hx'⟩) x hx rfl
   ·exact h1 i(by omega) j hj x hx hx'
  ·intro h;refine⟨fun i hi=>h i(by omega),hy k(by omega),fun x hx y aA e=>?_⟩;subst e;obtain⟨i,hi,hx⟩:=zDQ.1 hx;exact h k(by omega) i hi x aA hx
theorem zL4{W:zH}(h:zBI W){x:Int×Int}:∀(N:Nat)(k:Nat),k<W.pn->(W.zRP k).id<N->0<=(W.zRP k).id->(∀j,j<W.pn->0<=(W.zRP j).id)->x∈yV W(zO W k)->∃i,i<zq W/\x∈zFP W(zO W i)
 |0,k,hk,h1,h2,_,_=>by omega
 |N+1,k,hk,h1,h2,h0,hx=>by
  by_cases ho:x∈zCr W(zO W k)
  ·have bA:∃j,yA W(zO W k).zRT j:=by
    refine Classical.byContradiction fun aA=>?_
    have:zN W(zO W k).zRT=yP:=(by unfold zN;rw [dif_neg aA]);unfold zCr at ho;rw [this,zT,if_pos ⟨rfl,rfl⟩] at ho;simp at ho
   obtain⟨j,hj⟩:=bA;unfold zCr at ho;rw [yB hj] at ho;have e1:(zO W k).zRT=(W.zRP k).zRT:=(by rw [qS hk];rfl);have:=h.ids k hk;have:=hj.2.1;exact zL4 h N j hj.1(by omega)(h0 j hj.1) h0(by rw [qS hj.1];exact ho)
  ·exact⟨k,by unfold zq;omega,List.mem_filter.2 ⟨hx,by simpa using ho⟩⟩
theorem zO2{W:zH}(h:zBI W)(h0:∀j,j<W.pn->0<=(W.zRP j).id){x:Int×Int}{m:Nat}(hm:m<zq W)(hx:x∈yV W(zO W m)):∃i,i<zq W/\x∈zFP W(zO W i):=by
 by_cases ho:x∈zCr W(zO W m)
 ·have bA:∃j,yA W(zO W m).zRT j:=by
   refine Classical.byContradiction fun aA=>?_
   have:zN W(zO W m).zRT=yP:=(by unfold zN;rw [dif_neg aA]);unfold zCr at ho;rw [this,zT,if_pos ⟨rfl,rfl⟩] at ho;simp at ho
  obtain⟨j,hj⟩:=bA;unfold zCr at ho;rw [yB hj] at ho;have:=h0 j hj.1;exact zL4 h((W.zRP j).id.toNat+1) j hj.1(by omega)(h0 j hj.1) h0(by rw [qS hj.1];exact ho)
 ·exact⟨m,hm,List.mem_filter.2 ⟨hx,by simpa using ho⟩⟩
theorem zJR{W:zH}(h:zBI W)(h0:∀j,j<W.pn->0<=(W.zRP j).id)(hM:∀i,i<zq W->zJF W(zO W i)):zF2 W↔zEn W/\zGZ W:=by
 have hy:∀i,i<zq W->yD W(zO W i)=zFP W(zO W i):=fun i hi=>zN8(hM i hi)
 have rA:∀i,i<zq W->(yD W(zO W i)).Nodup:=fun i hi=>(zAe h.right(h.tree i hi)).filter _
 have nA:∀i,i<zq W->∀x,x∈zFP W(zO W i)->x∈yV W(zO W i):=fun i _ x hx=>(List.mem_filter.1 hx).1
 have gA:∀i,i<zq W->∀x,x∈yV W(zO W i)->zr W.zRQ x.1 x.2/\¬Has W.zRQ.hn W.zRQ.h x.1:=fun i hi x hx=>⟨(zAW h.right(h.tree i hi) hx).1,(zAW h.right(h.tree i hi) hx).2.2⟩
 have fA:∀x y:Int×Int,zr W.zRQ x.1 x.2->zr W.zRQ y.1 y.2->x.1=y.1->x=y:=fun x y hx eA e=>by
  have a1:=hx.2.2.2;have a2:=eA.2.2.2;rw [e] at a1;exact Prod.ext e(a1.symm.trans a2)
 have hA:(zn W(zq W)).Nodup↔zGZ W:=by
  rw [zG1 rA];unfold zGZ;constructor
  ·intro hh i hi j hj x hx y eA e;have oA:=fA x y(gA i hi x(nA i hi x hx)).1(gA j(by omega) y(nA j(by omega) y eA)).1 e;subst oA;exact hh i hi j hj x(by rw [hy i hi];exact hx)(by rw [hy j(by omega)];exact eA)
  ·intro hh i hi j hj x hx pA;exact hh i hi j hj x(by rw [<-hy i hi];exact hx) x(by rw [<-hy j(by omega)];exact pA) rfl
 have aA:∀x,x∈zn W(zq W)↔∃m,m<zq W/\x∈yV W(zO W m):=fun x=>by
  rw [zDQ];constructor
  ·rintro⟨i,hi,hx⟩;rw [hy i hi] at hx;exact⟨i,hi,nA i hi x hx⟩
  ·rintro⟨m,hm,hx⟩;obtain⟨i,hi,hx⟩:=zO2 h h0 hm hx;exact⟨i,hi,by rw [hy i hi];exact hx⟩
 unfold zF2;rw [hA];constructor
 ·rintro⟨ha,hlen⟩;refine⟨?_,ha⟩;have bA:=hA.2 ha;have cA:∀x,x∈zn W(zq W)->zr W.zRQ x.1 x.2:=fun x hx=>by
   obtain⟨m,hm,hx⟩:=(aA x).1 hx;exact(gA m hm x hx).1
  have hl:∀x,x∈(zn W(zq W)).map(fun x=>x.1.toNat)->x<W.zRQ.n:=by
   intro x hx;obtain⟨y,eA,rfl⟩:=List.mem_map.1 hx;have:=cA y eA;have h1:=this.2.1;have h2:=this.2.2.1;omega
  have lA:((zn W(zq W)).map(fun x=>x.1.toNat)).Nodup:=by
   unfold List.Nodup;rw [List.pairwise_map];refine List.Pairwise.imp_of_mem ?_ bA;intro a b mA kA iA e;have p1:=cA a mA;have p2:=cA b kA;have:=p1.2.1;have:=p2.2.1;exact iA(fA a b p1 p2(by omega))
  have hc:=zFZ lA hl;rw [List.length_map] at hc;have hr:=zK7 h.right;have dA:∀i,i<W.zRQ.n->(i∈(zn W(zq W)).map(fun x=>x.1.toNat)↔∃m,m<zq W/\∃b,((i:Int),b)∈yV W(zO W m)):=by
   intro i hi;rw [List.mem_map];constructor
   ·rintro⟨x,hx,e⟩;have:=(cA x hx).2.1;obtain⟨m,hm,hx⟩:=(aA x).1 hx;exact⟨m,hm,x.2,by rw [show(i:Int)=x.1 by omega];exact hx⟩
   ·rintro⟨m,hm,b,hx⟩;exact⟨(i,b),(aA _).2 ⟨m,hm,hx⟩,by simp⟩
  have jA:∀i,i<W.zRQ.n->i∈(zn W(zq W)).map(fun x=>x.1.toNat)->¬qG(W.zRQ.s i)/\¬Has W.zRQ.hn W.zRQ.h i:=by
   intro i hi hx;obtain⟨m,hm,b,hx⟩:=(dA i hi).1 hx;have:=gA m hm _ hx;refine⟨fun hf=>?_,this.2⟩;have h1:=this.1.1;have h2:=this.1.2.2.2;simp only [Int.toNat_natCast] at h2;rw [hf.1] at h2;simp only at h1 h2;omega
  have:=(zIG jA).1(by rw [hc];omega);intro i hi;rw [<-dA i hi];exact this i hi
 ·rintro⟨sA,ha⟩;refine⟨ha,?_⟩;have bA:=hA.2 ha;have cA:∀x,x∈zn W(zq W)->zr W.zRQ x.1 x.2:=fun x hx=>by
   obtain⟨m,hm,hx⟩:=(aA x).1 hx;exact(gA m hm x hx).1
  have hl:∀x,x∈(zn W(zq W)).map(fun x=>x.1.toNat)->x<W.zRQ.n:=by
   intro x hx;obtain⟨y,eA,rfl⟩:=List.mem_map.1 hx;have:=cA y eA;have h1:=this.2.1;have h2:=this.2.2.1;omega
  have lA:((zn W(zq W)).map(fun x=>x.1.toNat)).Nodup:=by
   unfold List.Nodup;rw [List.pairwise_map];refine List.Pairwise.imp_of_mem ?_ bA;intro a b mA kA iA e;have p1:=cA a mA;have p2:=cA b kA;have:=p1.2.1;have:=p2.2.1;exact iA(fA a b p1 p2(by omega))
  have hc:=zFZ lA hl;rw [List.length_map] at hc;have hr:=zK7 h.right;have dA:∀i,i<W.zRQ.n->(i∈(zn W(zq W)).map(fun x=>x.1.toNat)↔∃m,m<zq W/\∃b,((i:Int),b)∈yV W(zO W m)):=by
   intro i hi;rw [List.mem_map];constructor
   ·rintro⟨x,hx,e⟩;have:=(cA x hx).2.1;obtain⟨m,hm,hx⟩:=(aA x).1 hx;exact⟨m,hm,x.2,by rw [show(i:Int)=x.1 by omega];exact hx⟩
   ·rintro⟨m,hm,b,hx⟩;exact⟨(i,b),(aA _).2 ⟨m,hm,hx⟩,by simp⟩
  have:=zCO(P:=fun i=>i∈(zn W(zq W)).map(fun x=>x.1.toNat))(Q:=fun i=>¬qG(W.zRQ.s i)/\¬Has W.zRQ.hn W.zRQ.h i)(n:=W.zRQ.n)(fun i hi=>(dA i hi).trans(sA i hi));omega
end Go.Proofs.YtmgeglgboadfiaaGreatDoor
