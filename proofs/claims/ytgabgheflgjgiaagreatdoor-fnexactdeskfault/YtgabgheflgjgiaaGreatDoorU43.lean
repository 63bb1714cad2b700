/- A part of the proof. -/
import Derived.Test.YtgabgheflgjgiaaGreatDoorU42
set_option linter.unusedVariables false
set_option maxRecDepth 20000
set_option maxHeartbeats 4000000
namespace Go.Proofs.YtgabgheflgjgiaaGreatDoor
open Go.RowKit
theorem zLV(D:Nat)(P:Nat->Prop)(m cap:Nat)(va:Option Addr)(wd:ByteArray)(n:Int)(w:World)(hw:wd.toList = [100,114,111,112])(hD:zAS w D P)(mA:∀k,P k->k<w.heap.size) :
  Calls Tryz.prog 12 #[.pointer (some ⟨D,0,none⟩),.agg #[.string wd,.int .i64 n,.slice va m cap]] w (zDW 100 D P w):=by
 have e0:(wd.toList == [110,101,119])=false:=by rw[hw];rfl
 have e1:(wd.toList == [119,114,105,116,101])=false:=by rw[hw];rfl
 have e2:(wd.toList == [116,114,105,109])=false:=by rw[hw];rfl
 have e3:(wd.toList == [115,110,97,112])=false:=by rw[hw];rfl
 have e4:(wd.toList == [99,108,111,110,101])=false:=by rw[hw];rfl
 have e5:(wd.toList == [100,114,111,112])=true:=by rw[hw];rfl
 clear hw;have HD:=zG hD;have rA:=hD.lt;obtain⟨v0,v1,v2,v3,u0,u1,u2,u3,S,l1,h1,l2,h2,hA⟩:=hD;have HL:=zG hA.zOx.at;have HW:=zG hA.w1;have sA:=hA.hi1;obtain⟨a0,c0,a1,c1,a2,c2,a3,c3,rfl,rfl,rfl,rfl⟩:=hA.zOx.form;obtain⟨⟨y0,-⟩,⟨y1,-⟩,⟨y2,-⟩,⟨y3,-⟩,⟨y4,-⟩,⟨y5,-⟩,-⟩:=hA.box;have dA:D≠w.heap.size:=by omega
 have eA:w.heap.size≠D:=by omega
 clear hA;have ha:=zC w (.cells #[.string wd,.int .i64 n,.slice va m cap] 48);have hY:=qP.zOt w (.string wd) (.int .i64 n) (.slice va m cap) 48;have kA:(w.alloc (.cells #[.string wd,.int .i64 n,.slice va m cap] 48)).heap.size=w.heap.size+1:=World.size_alloc _ _;have cA:=zC (w.alloc (.cells #[.string wd,.int .i64 n,.slice va m cap] 48)) (.cells #[.slice a0 S.zOx.zOv.n c0,.slice a1 S.zOx.zOv.hn c1,.int .i64 S.zOx.time,.int .i64 S.zOx.next,.slice a2 S.zOx.sn c2,.slice a3 S.zOx.pn c3] 40);have pA:((w.alloc (.cells #[.string wd,.int .i64 n,.slice va m cap] 48)).alloc (.cells #[.slice a0 S.zOx.zOv.n c0,.slice a1 S.zOx.zOv.hn c1,.int .i64 S.zOx.time,.int .i64 S.zOx.next,.slice a2 S.zOx.sn c2,.slice a3 S.zOx.pn c3] 40)).heap.size=w.heap.size+1+1:=by rw[World.size_alloc,World.size_alloc]
 have hX:=za.zOt (w.alloc (.cells #[.string wd,.int .i64 n,.slice va m cap] 48)) (.slice a0 S.zOx.zOv.n c0) (.slice a1 S.zOx.zOv.hn c1) (.int .i64 S.zOx.time) (.int .i64 S.zOx.next) (.slice a2 S.zOx.sn c2) (.slice a3 S.zOx.pn c3) 40;rw[kA]at hX;have aA:=hY.zOp cA;have bA:=zA ha cA;obtain⟨⟨k0,-⟩,⟨j1,-⟩,⟨j2,-⟩⟩:=id aA;obtain⟨⟨i0,-⟩,⟨i1,-⟩,⟨i2,-⟩,⟨i3,-⟩,⟨i4,-⟩,⟨i5,-⟩⟩:=id hX;go_enter Tryz.func12,Tryz.ntmps12;go_wp2_with fail;have iA:=zG (HL.out.zOp bA);have gA:=zG (HD.out.zOp bA);have fA:=zG bA;generalize (w.alloc (.cells #[.string wd,.int .i64 n,.slice va m cap] 48)).alloc (.cells #[.slice a0 S.zOx.zOv.n c0,.slice a1 S.zOx.zOv.hn c1,.int .i64 S.zOx.time,.int .i64 S.zOx.next,.slice a2 S.zOx.sn c2,.slice a3 S.zOx.pn c3] 40)=W2 at hX aA  iA gA fA pA ⊢;clear ha cA bA hY y0 y1 y2 y3 y4 y5 k0 j1 j2 i0 i1 i2 i3 i4 i5 kA HL HD dA eA e0 e1 e2 e3 e4 e5;have HX:=zG hX;have HY:=zG aA;obtain⟨⟨z0,-⟩,⟨z1,-⟩,⟨z2,-⟩,⟨z3,-⟩,⟨z4,-⟩,⟨z5,-⟩⟩:=hX;obtain⟨-,⟨k1,-⟩,⟨k2,-⟩⟩:=aA;refine(zEA _ _ _ _ l1 h1 S.zOx n _ iA.out HW.out.zOv HW.out.sn HW.out.pn HW.out.deads).mono ?_;intro e w6 h6;obtain⟨o,oA,q0,q1,q2,q3,rfl,ho,jA⟩:=qw.good h6;clear h6 z0 z1 z2 z3 z4 z5 k1 k2;go_wp2_with fail;refine(zBL D _ _ P false true _ _ _ _ o w6 (gA.out.zOp jA) ho (Nat.le_refl _) (Or.inl (by omega)) (fun k hk=>Or.inl (by have:=mA k hk;omega)) oA).mono ?_;rintro e w8 ⟨⟨d,rfl,hd⟩,lA,nA⟩;go_wp2;go_ret;exact⟨⟨_,rfl,hd⟩,lA,(zE.zOs (zA fA.out jA)).trans nA⟩
theorem zLX(D:Nat)(P:Nat->Prop)(g m cap:Nat)(wd:ByteArray)(x0:ByteArray)(n:Int)(w:World)(hw:wd.toList = [114,101,97,100])(hD:zAS w D P)(rA:∀k,P k->k<w.heap.size)(sA:¬g=D)(t0:w.cell? ⟨g,0,none⟩=some (.string x0))(s0:x0.size<=100000)(hm:1<=m)(dA:m<=cap) :
  Calls Tryz.prog 12 #[.pointer (some ⟨D,0,none⟩),.agg #[.string wd,.int .i64 n,.slice (some ⟨g,0,none⟩) m cap]] w (zDW 100 D P w):=by
 have e0:(wd.toList == [110,101,119])=false:=by rw[hw];rfl
 have e1:(wd.toList == [119,114,105,116,101])=false:=by rw[hw];rfl
 have e2:(wd.toList == [116,114,105,109])=false:=by rw[hw];rfl
 have e3:(wd.toList == [115,110,97,112])=false:=by rw[hw];rfl
 have e4:(wd.toList == [99,108,111,110,101])=false:=by rw[hw];rfl
 have e5:(wd.toList == [100,114,111,112])=false:=by rw[hw];rfl
 have e6:(wd.toList == [100,101,115,116,114,111,121])=false:=by rw[hw];rfl
 have e7:(wd.toList == [98,97,99,107])=false:=by rw[hw];rfl
 have e8:(wd.toList == [112,114,111,109,111,116,101])=false:=by rw[hw];rfl
 have e9:(wd.toList == [114,101,97,100])=true:=by rw[hw];rfl
 clear hw;have HD:=zG hD;have pA:=hD.lt;obtain⟨v0,v1,v2,v3,u0,u1,u2,u3,S,l1,h1,l2,h2,hA⟩:=hD;have HL:=zG hA.zOx.at;have HW:=zG hA.w1;have vA:=hA.hi1;obtain⟨a0,c0,a1,c1,a2,c2,a3,c3,rfl,rfl,rfl,rfl⟩:=hA.zOx.form;obtain⟨⟨y0,-⟩,⟨y1,-⟩,⟨y2,-⟩,⟨y3,-⟩,⟨y4,-⟩,⟨y5,-⟩,-⟩:=hA.box;have tA:=zD t0;have eA:D≠w.heap.size:=by omega
 have fA:w.heap.size≠D:=by omega
 clear hA;have ha:=zC w (.cells #[.string wd,.int .i64 n,.slice (some ⟨g,0,none⟩) m cap] 48);have hY:=qP.zOt w (.string wd) (.int .i64 n) (.slice (some ⟨g,0,none⟩) m cap) 48;have jA:(w.alloc (.cells #[.string wd,.int .i64 n,.slice (some ⟨g,0,none⟩) m cap] 48)).heap.size=w.heap.size+1:=World.size_alloc _ _;have cA:=zC (w.alloc (.cells #[.string wd,.int .i64 n,.slice (some ⟨g,0,none⟩) m cap] 48)) (.cells #[.slice a0 S.zOx.zOv.n c0,.slice a1 S.zOx.zOv.hn c1,.int .i64 S.zOx.time,.int .i64 S.zOx.next,.slice a2 S.zOx.sn c2,.slice a3 S.zOx.pn c3] 40);have oA:((w.alloc (.cells #[.string wd,.int .i64 n,.slice (some ⟨g,0,none⟩) m cap] 48)).alloc (.cells #[.slice a0 S.zOx.zOv.n c0,.slice a1 S.zOx.zOv.hn c1,.int .i64 S.zOx.time,.int .i64 S.zOx.next,.slice a2 S.zOx.sn c2,.slice a3 S.zOx.pn c3] 40)).heap.size=w.heap.size+1+1:=by rw[World.size_alloc,World.size_alloc]
 have hX:=za.zOt (w.alloc (.cells #[.string wd,.int .i64 n,.slice (some ⟨g,0,none⟩) m cap] 48)) (.slice a0 S.zOx.zOv.n c0) (.slice a1 S.zOx.zOv.hn c1) (.int .i64 S.zOx.time) (.int .i64 S.zOx.next) (.slice a2 S.zOx.sn c2) (.slice a3 S.zOx.pn c3) 40;rw[jA]at hX;have bA:=hY.zOp cA;have aA:=zA ha cA;obtain⟨⟨k0,-⟩,⟨j1,-⟩,⟨j2,-⟩⟩:=id bA;obtain⟨⟨i0,-⟩,⟨i1,-⟩,⟨i2,-⟩,⟨i3,-⟩,⟨i4,-⟩,⟨i5,-⟩⟩:=id hX;go_enter Tryz.func12,Tryz.ntmps12;go_wp2_with fail;have T0:=(aA.cell (zD t0)).trans t0;have kA:=zG (HL.out.zOp aA);have iA:=zG (HD.out.zOp aA);have gA:=zG aA;generalize (w.alloc (.cells #[.string wd,.int .i64 n,.slice (some ⟨g,0,none⟩) m cap] 48)).alloc (.cells #[.slice a0 S.zOx.zOv.n c0,.slice a1 S.zOx.zOv.hn c1,.int .i64 S.zOx.time,.int .i64 S.zOx.next,.slice a2 S.zOx.sn c2,.slice a3 S.zOx.pn c3] 40)=W2 at hX bA T0 kA iA gA oA ⊢;clear ha cA aA hY y0 y1 y2 y3 y4 y5 k0 j1 j2 i0 i1 i2 i3 i4 i5 jA HL HD eA fA e0 e1 e2 e3 e4 e5 e6 e7 e8 e9 t0;have HX:=zG hX;have HY:=zG bA;obtain⟨⟨z0,-⟩,⟨z1,-⟩,⟨z2,-⟩,⟨z3,-⟩,⟨z4,-⟩,⟨z5,-⟩⟩:=hX;obtain⟨-,⟨k1,-⟩,⟨k2,-⟩⟩:=bA;have aB:(0:Int)<(m:Int):=by omega
 have nA:0<m:=by omega
 refine(zMy D P g m cap wd x0 n W2 iA.out T0 nA dA).mono ?_;rintro e w8 ⟨⟨d,rfl,hd⟩,lA,mA⟩;go_wp2;go_ret;exact⟨⟨_,rfl,hd⟩,lA,(zE.zOs gA.out).trans mA⟩
theorem zFa(v0 v1:Value)(lo hi:Nat)(p:zI)(w:World)(h1:qm w lo hi v0 v1 p) :
  Calls Tryz.prog 32 #[.agg #[v0,v1]] w fun e w'=>e = .returned (.int .i64 (zG5 p))/\Below w.heap.size w w':=by
 have Hp:Hid (qm w lo hi v0 v1 p):=h1;obtain⟨⟨m1,a,c,rfl,mc,g1⟩,⟨m2,a',c',rfl,eA,g2⟩⟩:=h1;clear g1 g2;have ha:=zC w (.cells #[.slice a p.n c,.slice a' p.hn c'] 36);go_enter Tryz.func32,Tryz.ntmps32;go_wp2_with fail;refine(yt _ _ lo hi p _ (Hp.out.zOp ha)).mono ?_;rintro e w1 ⟨⟨t,rfl,ht⟩,aA⟩;have Hx:Hid (zk w1 w.heap.size (.slice a p.n c) (.slice a' p.hn c')):=(zk.zOt w _ _ _).zOp aA;have bA:=zA ha aA;clear ha aA;by_cases hR:zt p
 ·obtain rfl:t=true:=ht.2 hR;have HR:Hid (zt p):=hR;clear ht hR;obtain⟨⟨y0,y1⟩,⟨y2,y3⟩⟩:=Hx.out;go_wp2_with fail;refine(zFr _ _ lo hi p _ (Hp.out.zOp bA) HR.out.1).mono ?_;rintro e w2 ⟨rfl,cA⟩;have dA:=zA bA cA;clear cA y0 y1 y2 y3;go_wp2;go_ret;refine⟨?_,dA⟩;have e:zG5 p=(roomN p.s p.n:Int):=if_pos HR.out;rw[e];rfl
 ·obtain rfl:t=false:=zP ht hR;have HR:Hid (¬zt p):=hR;clear ht hR;go_wp2;go_ret;refine⟨?_,bA⟩;have e:zG5 p=0:=if_neg HR.out;rw[e];rfl
theorem zLW(D:Nat)(P:Nat->Prop)(m cap:Nat)(va:Option Addr)(wd:ByteArray)(n:Int)(w:World)(hw:wd.toList = [102,114,101,101])(hD:zAS w D P)(sA:∀k,P k->k<w.heap.size) :
  Calls Tryz.prog 12 #[.pointer (some ⟨D,0,none⟩),.agg #[.string wd,.int .i64 n,.slice va m cap]] w (zDW 100 D P w):=by
 have e0:(wd.toList == [110,101,119])=false:=by rw[hw];rfl
 have e1:(wd.toList == [119,114,105,116,101])=false:=by rw[hw];rfl
 have e2:(wd.toList == [116,114,105,109])=false:=by rw[hw];rfl
 have e3:(wd.toList == [115,110,97,112])=false:=by rw[hw];rfl
 have e4:(wd.toList == [99,108,111,110,101])=false:=by rw[hw];rfl
 have e5:(wd.toList == [100,114,111,112])=false:=by rw[hw];rfl
 have e6:(wd.toList == [100,101,115,116,114,111,121])=false:=by rw[hw];rfl
 have e7:(wd.toList == [98,97,99,107])=false:=by rw[hw];rfl
 have e8:(wd.toList == [112,114,111,109,111,116,101])=false:=by rw[hw];rfl
 have e9:(wd.toList == [114,101,97,100])=false:=by rw[hw];rfl
 have oA:(wd.toList == [102,114,101,101])=true:=by rw[hw];rfl
 clear hw;have HD:=zG hD;have rA:=hD.lt;obtain⟨v0,v1,v2,v3,u0,u1,u2,u3,S,l1,h1,l2,h2,hA⟩:=hD;have HL:=zG hA.zOx.at;have HW:=zG hA.w1;have tA:=hA.hi1;obtain⟨a0,c0,a1,c1,a2,c2,a3,c3,rfl,rfl,rfl,rfl⟩:=hA.zOx.form;obtain⟨⟨y0,-⟩,⟨y1,-⟩,⟨y2,-⟩,⟨y3,-⟩,⟨y4,-⟩,⟨y5,-⟩,-⟩:=hA.box;have fA:D≠w.heap.size:=by omega
 have gA:w.heap.size≠D:=by omega
 clear hA;have ha:=zC w (.cells #[.string wd,.int .i64 n,.slice va m cap] 48);have hY:=qP.zOt w (.string wd) (.int .i64 n) (.slice va m cap) 48;have lA:(w.alloc (.cells #[.string wd,.int .i64 n,.slice va m cap] 48)).heap.size=w.heap.size+1:=World.size_alloc _ _;have cA:=zC (w.alloc (.cells #[.string wd,.int .i64 n,.slice va m cap] 48)) (.cells #[.slice a0 S.zOx.zOv.n c0,.slice a1 S.zOx.zOv.hn c1,.int .i64 S.zOx.time,.int .i64 S.zOx.next,.slice a2 S.zOx.sn c2,.slice a3 S.zOx.pn c3] 40);have pA:((w.alloc (.cells #[.string wd,.int .i64 n,.slice va m cap] 48)).alloc (.cells #[.slice a0 S.zOx.zOv.n c0,.slice a1 S.zOx.zOv.hn c1,.int .i64 S.zOx.time,.int .i64 S.zOx.next,.slice a2 S.zOx.sn c2,.slice a3 S.zOx.pn c3] 40)).heap.size=w.heap.size+1+1:=by rw[World.size_alloc,World.size_alloc]
 have hX:=za.zOt (w.alloc (.cells #[.string wd,.int .i64 n,.slice va m cap] 48)) (.slice a0 S.zOx.zOv.n c0) (.slice a1 S.zOx.zOv.hn c1) (.int .i64 S.zOx.time) (.int .i64 S.zOx.next) (.slice a2 S.zOx.sn c2) (.slice a3 S.zOx.pn c3) 40;rw[lA]at hX;have aA:=hY.zOp cA;have bA:=zA ha cA;obtain⟨⟨k0,-⟩,⟨j1,-⟩,⟨j2,-⟩⟩:=id aA;obtain⟨⟨i0,-⟩,⟨i1,-⟩,⟨i2,-⟩,⟨i3,-⟩,⟨i4,-⟩,⟨i5,-⟩⟩:=id hX;go_enter Tryz.func12,Tryz.ntmps12;go_wp2_with fail;have kA:=zG (HL.out.zOp bA);have jA:=zG (HD.out.zOp bA);have iA:=zG bA;generalize (w.alloc (.cells #[.string wd,.int .i64 n,.slice va m cap] 48)).alloc (.cells #[.slice a0 S.zOx.zOv.n c0,.slice a1 S.zOx.zOv.hn c1,.int .i64 S.zOx.time,.int .i64 S.zOx.next,.slice a2 S.zOx.sn c2,.slice a3 S.zOx.pn c3] 40)=W2 at hX aA  kA jA iA pA ⊢;clear ha cA bA hY y0 y1 y2 y3 y4 y5 k0 j1 j2 i0 i1 i2 i3 i4 i5 lA HL HD fA gA e0 e1 e2 e3 e4 e5 e6 e7 e8 e9 oA;have HX:=zG hX;have HY:=zG aA;obtain⟨⟨z0,-⟩,⟨z1,-⟩,⟨z2,-⟩,⟨z3,-⟩,⟨z4,-⟩,⟨z5,-⟩⟩:=hX;obtain⟨-,⟨k1,-⟩,⟨k2,-⟩⟩:=aA;refine(zFa _ _ l1 h1 S.zOx.zOv _ kA.out.zOv).mono ?_;rintro e w6 ⟨rfl,dA⟩;have hr:0<=zG5 S.zOx.zOv/\zG5 S.zOx.zOv<=1048576:=by
  unfold zG5;split
  ·rename_i h
   have h1:=zG4 S.zOx.zOv.s S.zOx.zOv.n;have h2:=h.1;omega
  ·omega
 clear z0 z1 z2 z3 z4 z5 k1 k2;go_wp2_with fail;refine(zCI (zG5 S.zOx.zOv) _ hr.1 (by omega)).mono ?_;rintro e w7 ⟨⟨d,rfl,hd⟩,eA⟩;have mA:=zG (zA (zA iA.out dA) eA);have nA:=zG ((jA.out.zOp dA).zOp eA);clear dA eA hr;go_wp2;go_ret;exact⟨⟨_,rfl,by rw[ByteArray.size_append];show 5+d.size<=100;omega⟩,nA.out,zE.zOs mA.out⟩
end Go.Proofs.YtgabgheflgjgiaaGreatDoor
