/- The variables with which PoolTake begins (no law is proved here). -/
import Derived.Test.YtmgeglgboadfiaaGreatDoorT14
import Derived.Scope
import Derived.WalkMore
import Derived.Deep.MidRow
set_option linter.unusedVariables false
set_option maxRecDepth 20000
set_option maxHeartbeats 4000000
namespace Go.Proofs.YtmgeglgboadfiaaGreatDoor
open Go.RowKit
theorem zP8(w:World)(a0 a1 x0 x1 x2:Value)(t1 t2 t3:TypeId) :
  zc (((w.alloc (.cells #[a0,a1] t1)).alloc (.cells #[x0,x1,x2] t2)).alloc (.cells #[.slice none 0 0,.slice none 0 0,.int .i64 0,.int .i64 0,.int .i64 0] t3)) w.heap.size a0 a1/\
  yT (((w.alloc (.cells #[a0,a1] t1)).alloc (.cells #[x0,x1,x2] t2)).alloc (.cells #[.slice none 0 0,.slice none 0 0,.int .i64 0,.int .i64 0,.int .i64 0] t3)) (w.heap.size+1) x0 x1 x2/\
  zFQ (((w.alloc (.cells #[a0,a1] t1)).alloc (.cells #[x0,x1,x2] t2)).alloc (.cells #[.slice none 0 0,.slice none 0 0,.int .i64 0,.int .i64 0,.int .i64 0] t3)) (w.heap.size+1+1) (.slice none 0 0) (.slice none 0 0) (.int .i64 0) (.int .i64 0) (.int .i64 0)/\
  Below w.heap.size w (((w.alloc (.cells #[a0,a1] t1)).alloc (.cells #[x0,x1,x2] t2)).alloc (.cells #[.slice none 0 0,.slice none 0 0,.int .i64 0,.int .i64 0,.int .i64 0] t3))/\
  (((w.alloc (.cells #[a0,a1] t1)).alloc (.cells #[x0,x1,x2] t2)).alloc (.cells #[.slice none 0 0,.slice none 0 0,.int .i64 0,.int .i64 0,.int .i64 0] t3)).heap.size=w.heap.size+3:=by
 refine⟨((zc.zRL w a0 a1 t1).zRJ (zC _ _)).zRJ (zC _ _),?_,?_,zA (zA (zC _ _) (zC _ _)) (zC _ _),by simp⟩
 ·have:=(yT.zRL (w.alloc (.cells #[a0,a1] t1)) x0 x1 x2 t2).zRJ (zC _ (.cells #[.slice none 0 0,.slice none 0 0,.int .i64 0,.int .i64 0,.int .i64 0] t3));rw[World.size_alloc]at this;exact this
 ·have:=zFQ.zRL ((w.alloc (.cells #[a0,a1] t1)).alloc (.cells #[x0,x1,x2] t2)) (.slice none 0 0) (.slice none 0 0) (.int .i64 0) (.int .i64 0) (.int .i64 0) t3;rw[World.size_alloc,World.size_alloc]at this;exact this
theorem zGY(v0 v1 kv:Value)(lo hi lo' hi':Nat)(p:zJ)(s:zL)(w:World)(h1:zy w lo hi v0 v1 p)(h2:qI w lo' hi' (.int .i64 s.zRU) kv (.string s.data) s)(hn:qD p+zAV s<=1048576) :
  Calls Tryz.prog 100 #[.agg #[v0,v1],.agg #[.int .i64 s.zRU,kv,.string s.data]] w (zMs (zCy p s) w):=by
 have Hp:=zU h1;have Hs:=zU h2;have Hn:=zU hn;obtain⟨a,c,a',c',rfl,rfl⟩:=h1.form;obtain⟨ka,kc,rfl⟩:=h2.form;have dC:s.kn<=1048576:=by unfold zAV at hn;omega
 have aC:p.n<=1048576:=by unfold qD at hn;omega
 have lB:=zP8 w (.slice a p.n c) (.slice a' p.hn c') (.int .i64 s.zRU) (.slice ka s.kn kc) (.string s.data) 33 127 151;clear h1 h2 hn;go_enter Tryz.func100,Tryz.ntmps100;go_wp2_with fail;generalize ((w.alloc (.cells #[.slice a p.n c,.slice a' p.hn c'] 33)).alloc (.cells #[.int .i64 s.zRU,.slice ka s.kn kc,.string s.data] 127)).alloc (.cells #[.slice none 0 0,.slice none 0 0,.int .i64 0,.int .i64 0,.int .i64 0] 151)=W at lB ⊢;obtain⟨hB,hX,hR,bB,hz⟩:=lB;refine(yy _ _ lo hi p _ (Hp.out.zRJ bB)).mono ?_;rintro e w1 ⟨⟨t,rfl,ht⟩,kA⟩;have jB:=zU (hB.zRJ kA);have cB:=zU (hX.zRJ kA);have pA:=zU (hR.zRJ kA);have vA:=zA bB kA;have nB:w.heap.size+3<=w1.heap.size:=by have:=kA.size;omega
 clear hB hX hR bB kA hz;by_cases fA:zv p
 ·have sA:=zU fA;obtain rfl:t=true:=ht.2 fA;clear ht fA;obtain⟨⟨y0,y1⟩,⟨y2,y3⟩,⟨y4,y5⟩⟩:=cB.out;go_wp2_with fail;refine(zBe _ _ _ lo' hi' s _ (Hs.out.zRJ vA)).mono ?_;rintro e w2 ⟨⟨t,rfl,ht⟩,iA⟩;have eB:=zU (jB.out.zRJ iA);have dB:=zU (cB.out.zRJ iA);have tA:=zU (pA.out.zRJ iA);have mA:=zA vA iA;have vB:w.heap.size+3<=w2.heap.size:=(by have:=iA.size;omega);clear iA vA jB cB pA nB y0 y1 y2 y3 y4 y5;by_cases hF:qG s
  ·have HF:=zU hF;obtain rfl:t=true:=ht.2 hF;clear ht hF;obtain⟨⟨u0,u1⟩,⟨u2,u3⟩,⟨u4,u5⟩,⟨u6,u7⟩,⟨u8,u9⟩⟩:=tA.out;go_wp2;have aA:=tA.out.put (.slice none 0 0) (.slice none 0 0) (.int .i64 0) (.int .i64 0) (.int .i64 1);have bA:=zCg (R:=w.heap.size+1+1) (u2:=.int .i64 0) (u3:=.int .i64 0) (u4:=.int .i64 1) (by omega) mA;rw[zGg (fun h=>h.2.1 HF.out)];exact bodyPost_ret (v:=.agg #[.slice none 0 0,.slice none 0 0,.int .i64 0,.int .i64 0,.int .i64 1]) (by simp[results,Tryz.results100,go_sem,aA.1.1,aA.2.1.1,aA.2.2.1.1,aA.2.2.2.1.1,aA.2.2.2.2.1]) rfl ⟨_,_,rfl,bA.1,bA.2⟩
  ·have HF:=zU hF;obtain rfl:t=false:=zQ ht hF;clear ht hF;obtain⟨⟨x0,x1⟩,⟨x2,x3⟩⟩:=eB.out;obtain⟨⟨y0,y1⟩,⟨y2,y3⟩,⟨y4,y5⟩⟩:=dB.out;go_wp2_with fail;refine(zE9 _ _ _ _ p.n lo hi lo' hi' p.s s _ (Hp.out.1.zRJ mA) (Hs.out.zRJ mA)).mono ?_;rintro e w3 ⟨⟨t,rfl,ht⟩,gA⟩;rw[zI9 sA.out HF.out]at ht;have rA:=zU (eB.out.zRJ gA);have aB:=zU (dB.out.zRJ gA);have jA:=zU (tA.out.zRJ gA);have eA:=zA mA gA;have pB:w.heap.size+3<=w3.heap.size:=(by have:=gA.size;omega);clear gA mA eB dB tA vB x0 x1 x2 x3 y0 y1 y2 y3 y4 y5;by_cases hT:zAN p s
   ·have HT:=zU (And.intro sA.out (And.intro HF.out hT));obtain rfl:t=true:=ht.2 hT;clear ht hT;obtain⟨⟨x0,x1⟩,⟨x2,x3⟩⟩:=rA.out;go_wp2_with fail;refine(zIq _ p.n lo hi p.s _ (Hp.out.1.zRJ eA)).mono ?_;rintro e w4 ⟨⟨i,kB,rfl⟩ | ⟨tB,rfl⟩,dA⟩
    ·have gB:=zU (rA.out.zRJ dA);have mB:=zU (aB.out.zRJ dA);have lA:=zU (jA.out.zRJ dA);have nA:=zA eA dA;have bC:w.heap.size+3<=w4.heap.size:=(by have:=dA.size;omega);have Hi:=zU kB;have cC:¬(i:Int)<0:=(by omega);clear dA rA aB jA eA x0 x1 x2 x3 pB kB;obtain⟨⟨x0,x1⟩,⟨x2,x3⟩⟩:=gB.out;obtain⟨⟨y0,y1⟩,⟨y2,y3⟩,⟨y4,y5⟩⟩:=mB.out;obtain⟨⟨u0,u1⟩,⟨u2,u3⟩,⟨u4,u5⟩,⟨u6,u7⟩,⟨u8,u9⟩⟩:=lA.out;have n0:w.heap.size+1+1≠w.heap.size:=(by omega);have n1:w.heap.size+1+1≠w.heap.size+1:=(by omega);go_wp2_with fail;go_region_held3 (fun w'=>w'.cell? ⟨w.heap.size,0,none⟩=some (.slice a p.n c)/\w'.cell? ⟨w.heap.size,1,none⟩=some (.slice a' p.hn c')/\w'.cell? ⟨w.heap.size+1,0,none⟩=some (.int .i64 s.zRU)/\w'.cell? ⟨w.heap.size+1,1,none⟩=some (.slice ka s.kn kc)/\w'.cell? ⟨w.heap.size+1,2,none⟩=some (.string s.data)) (go_keep)
      (first
       | (go_at_call 160;refine(zKz _ _ _ lo hi lo' hi' i p s _ ?_ ?_ Hi.out.1 Hn.out).mono ?_;(exact Hp.out.zRJ nA.drew);(exact Hs.out.zRJ nA.drew);rintro e w5 ⟨s0,s1,rfl,fB,iB⟩;obtain⟨a5,c5,a6,c6,rfl,rfl⟩:=fB.form;have cA:=zK iB;obtain⟨⟨p0,p1⟩,⟨p2,p3⟩⟩:=gB.out.zRJ cA;obtain⟨⟨p4,p5⟩,⟨p6,p7⟩,⟨p8,p9⟩⟩:=mB.out.zRJ cA;obtain⟨⟨r0,r1⟩,⟨r2,r3⟩,⟨r4,r5⟩,⟨r6,r7⟩,⟨r8,r9⟩⟩:=lA.out.zRJ cA))
     have oB:Hid (zt w5 w4.heap.size w5.heap.size (.slice a5 (qm p i s).n c5) (.slice a6 (qm p i s).hn c6) (qm p i s)):=fB;have sB:=zU (lA.out.zRJ cA);have rB:=zA nA cA;clear fB iB cA;go_wp2;have oA:=sB.out.put (.slice a5 (qm p i s).n c5) (.slice a6 (qm p i s).hn c6) (.int .i64 (i:Int)) (.int .i64 s.zRU) (.int .i64 0);have bA:=zHI (R:=w.heap.size+1+1) (u2:=.int .i64 (i:Int)) (u3:=.int .i64 s.zRU) (u4:=.int .i64 0) oB.out (by omega) (by omega) (Nat.le_refl _) rB;rw[zKb HT.out Hi.out];exact bodyPost_ret (v:=.agg #[.slice a5 (qm p i s).n c5,.slice a6 (qm p i s).hn c6,.int .i64 (i:Int),.int .i64 s.zRU,.int .i64 0]) (by simp[results,Tryz.results100,go_sem,oA.1.1,oA.2.1.1,oA.2.2.1.1,oA.2.2.2.1.1,oA.2.2.2.2.1]) rfl ⟨_,_,rfl,bA.1,bA.2⟩
    ·have lA:=zU (jA.out.zRJ dA);have nA:=zA eA dA;clear dA rA aB jA eA x0 x1 x2 x3;obtain⟨⟨u0,u1⟩,⟨u2,u3⟩,⟨u4,u5⟩,⟨u6,u7⟩,⟨u8,u9⟩⟩:=lA.out;go_wp2;have aA:=lA.out.put (.slice none 0 0) (.slice none 0 0) (.int .i64 0) (.int .i64 0) (.int .i64 6);have bA:=zCg (R:=w.heap.size+1+1) (u2:=.int .i64 0) (u3:=.int .i64 0) (u4:=.int .i64 6) (by omega) nA;rw[zGH HT.out tB];exact bodyPost_ret (v:=.agg #[.slice none 0 0,.slice none 0 0,.int .i64 0,.int .i64 0,.int .i64 6]) (by simp[results,Tryz.results100,go_sem,aA.1.1,aA.2.1.1,aA.2.2.1.1,aA.2.2.2.1.1,aA.2.2.2.2.1]) rfl ⟨_,_,rfl,bA.1,bA.2⟩
   ·have HT:=zU hT;obtain rfl:t=false:=zQ ht hT;clear ht hT;obtain⟨⟨u0,u1⟩,⟨u2,u3⟩,⟨u4,u5⟩,⟨u6,u7⟩,⟨u8,u9⟩⟩:=jA.out;go_wp2;have aA:=jA.out.put (.slice none 0 0) (.slice none 0 0) (.int .i64 0) (.int .i64 0) (.int .i64 1);have bA:=zCg (R:=w.heap.size+1+1) (u2:=.int .i64 0) (u3:=.int .i64 0) (u4:=.int .i64 1) (by omega) eA;rw[zGg (fun h=>HT.out h.2.2)];exact bodyPost_ret (v:=.agg #[.slice none 0 0,.slice none 0 0,.int .i64 0,.int .i64 0,.int .i64 1]) (by simp[results,Tryz.results100,go_sem,aA.1.1,aA.2.1.1,aA.2.2.1.1,aA.2.2.2.1.1,aA.2.2.2.2.1]) rfl ⟨_,_,rfl,bA.1,bA.2⟩
 ·have sA:=zU fA;obtain rfl:t=false:=zQ ht fA;clear ht fA;obtain⟨⟨u0,u1⟩,⟨u2,u3⟩,⟨u4,u5⟩,⟨u6,u7⟩,⟨u8,u9⟩⟩:=pA.out;go_wp2;have aA:=pA.out.put (.slice none 0 0) (.slice none 0 0) (.int .i64 0) (.int .i64 0) (.int .i64 1);have bA:=zCg (R:=w.heap.size+1+1) (u2:=.int .i64 0) (u3:=.int .i64 0) (u4:=.int .i64 1) (by omega) vA;rw[zGg (fun h=>sA.out h.1)];exact bodyPost_ret (v:=.agg #[.slice none 0 0,.slice none 0 0,.int .i64 0,.int .i64 0,.int .i64 1]) (by simp[results,Tryz.results100,go_sem,aA.1.1,aA.2.1.1,aA.2.2.1.1,aA.2.2.2.1.1,aA.2.2.2.2.1]) rfl ⟨_,_,rfl,bA.1,bA.2⟩
def mix(f g:Nat->Int)(j:Nat):Int:=if j % 2=0 then f (j / 2)else g (j / 2)
theorem zGN(f g:Nat->Int)(i:Nat):mix f g (i*2)=f i/\mix f g (i*2+1)=g i:=by
 unfold mix;rw[if_pos (by omega),if_neg (by omega),show i*2 / 2=i by omega,show(i*2+1) / 2=i by omega];exact⟨rfl,rfl⟩
def yK(f g:Nat->Int):Prop:=∀i,i<8->Nil (f i) (g i)
theorem zLl(f g:Nat->Int):zGL (mix f g) (fun _=>0)=true↔yK f g:=by
 rw[zIc];constructor
 ·intro h i hi;have:=h i hi;rw[(zGN f g i).1,(zGN f g i).2]at this;exact this
 ·intro h i hi;rw[(zGN f g i).1,(zGN f g i).2];exact h i hi
def qW(f g:Nat->Int)(b:Int):zL:={zRU:=b,kn:=8,ks:=f,kb:=g,data:=⟨#[]⟩}
open Classical in
noncomputable def zEz(p:zJ)(f g:Nat->Int)(b:Int):zDj:=if yK f g then⟨p,0,0,0⟩else zCy p (qW f g b)
theorem zPy(w:World)(a0 a1:Value)(cs:Array Value)(t1 t2 t3:TypeId) :
  zc (((w.alloc (.cells #[a0,a1] t1)).alloc (.cells cs t2)).alloc (.cells #[.slice none 0 0,.slice none 0 0,.int .i64 0,.int .i64 0,.int .i64 0] t3)) w.heap.size a0 a1/\
  (((w.alloc (.cells #[a0,a1] t1)).alloc (.cells cs t2)).alloc (.cells #[.slice none 0 0,.slice none 0 0,.int .i64 0,.int .i64 0,.int .i64 0] t3)).heap[w.heap.size+1]?=some (.cells cs t2 (0,0))/\
  zFQ (((w.alloc (.cells #[a0,a1] t1)).alloc (.cells cs t2)).alloc (.cells #[.slice none 0 0,.slice none 0 0,.int .i64 0,.int .i64 0,.int .i64 0] t3)) (w.heap.size+1+1) (.slice none 0 0) (.slice none 0 0) (.int .i64 0) (.int .i64 0) (.int .i64 0)/\
  Below w.heap.size w (((w.alloc (.cells #[a0,a1] t1)).alloc (.cells cs t2)).alloc (.cells #[.slice none 0 0,.slice none 0 0,.int .i64 0,.int .i64 0,.int .i64 0] t3))/\
  (((w.alloc (.cells #[a0,a1] t1)).alloc (.cells cs t2)).alloc (.cells #[.slice none 0 0,.slice none 0 0,.int .i64 0,.int .i64 0,.int .i64 0] t3)).heap.size=w.heap.size+3:=by
 refine⟨((zc.zRL w a0 a1 t1).zRJ (zC _ _)).zRJ (zC _ _),?_,?_,zA (zA (zC _ _) (zC _ _)) (zC _ _),by simp⟩
 ·exact(zGw w (.cells #[a0,a1] t1) (.cells cs t2) _).1
 ·have:=zFQ.zRL ((w.alloc (.cells #[a0,a1] t1)).alloc (.cells cs t2)) (.slice none 0 0) (.slice none 0 0) (.int .i64 0) (.int .i64 0) (.int .i64 0) t3;rw[World.size_alloc,World.size_alloc]at this;exact this
theorem zKy(v0 v1:Value)(lo hi:Nat)(p:zJ)(f g:Nat->Int)(b:Int)(w:World)(h1:zy w lo hi v0 v1 p)(hn:qD p+8<=1048576) :
  Calls Tryz.prog 161 #[.agg #[v0,v1],.agg (zp (mix f g)),.int .i64 b] w (zMs (zEz p f g b) w):=by
 have Hp:=zE h1;obtain⟨a,c,a',c',rfl,rfl⟩:=h1.form;have Hn:=zE hn;clear h1 hn;have bB:=zPy w (.slice a p.n c) (.slice a' p.hn c') (zp (mix f g)) 33 155 151;have eA:Hid ((Tryz.prog.info? 155).map (·.size)=some (zp (mix f g)).size):=by
  show _=_;rw[qB];exact zBt
 have fB:∀w,(binOp .eql 155 (.agg (zp (mix f g))) (.agg #[Value.int .i64 0,Value.int .i64 0,Value.int .i64 0,Value.int .i64 0,Value.int .i64 0,Value.int .i64 0,Value.int .i64 0,Value.int .i64 0,Value.int .i64 0,Value.int .i64 0,Value.int .i64 0,Value.int .i64 0,Value.int .i64 0,Value.int .i64 0,Value.int .i64 0,Value.int .i64 0])).run Tryz.prog w = .ok (.bool (zGL (mix f g) (fun _=>0))) w:=fun w=>zKl (mix f g) (fun _=>0) w
 go_enter Tryz.func161,Tryz.ntmps161;go_upto_region 1 with fail;generalize ((w.alloc (.cells #[.slice a p.n c,.slice a' p.hn c'] 33)).alloc (.cells (zp (mix f g)) 155)).alloc (.cells #[.slice none 0 0,.slice none 0 0,.int .i64 0,.int .i64 0,.int .i64 0] 151)=W at bB ⊢;obtain⟨hB,hA,hR,dA,hz⟩:=bB;have HA:=zE hA;have HB:=zE hB;have HR:=zE hR;clear hA hR;obtain⟨⟨x0,x1⟩,⟨x2,x3⟩⟩:=HB.out;by_cases hN:yK f g
 ·have HN:=zE hN;have iB:=(zLl f g).2 hN;clear hN;go_wp2_with (first
   | (refine wpList_load_row rfl 155 (.tmp 4) rfl (w.heap.size+1) rfl 155 (zp (mix f g)) (0,0) _ HA.out zHE rfl eA.out ?_)
   | fail)
  refine(zBy _ _ lo hi p W (Hp.out.zRJ dA) (by have:=Hn.out;omega)).mono ?_;rintro e w1 ⟨s0,s1,rfl,kA,jA⟩;obtain⟨a1,c1,a2,c2,rfl,rfl⟩:=kA.form;have gB:=zE kA;have oA:=zE (HR.out.zRJ jA);have jB:=zA dA jA;have lB:=jA.size;clear kA jA dA x0 x1 x2 x3 hB;obtain⟨⟨u0,u1⟩,⟨u2,u3⟩,⟨u4,u5⟩,⟨u6,u7⟩,⟨u8,u9⟩⟩:=oA.out;go_wp2;have aA:=oA.out.put (.slice a1 p.n c1) (.slice a2 p.hn c2) (.int .i64 0) (.int .i64 0) (.int .i64 0);have gA:=zHI (R:=w.heap.size+1+1) (u2:=.int .i64 0) (u3:=.int .i64 0) (u4:=.int .i64 0) gB.out (by omega) (by omega) (Nat.le_refl _) jB;rw[show zEz p f g b=⟨p,0,0,0⟩from if_pos HN.out];exact bodyPost_ret (v:=.agg #[.slice a1 p.n c1,.slice a2 p.hn c2,.int .i64 0,.int .i64 0,.int .i64 0]) (by simp[results,Tryz.results161,go_sem,aA.1.1,aA.2.1.1,aA.2.2.1.1,aA.2.2.2.1.1,aA.2.2.2.2.1]) rfl ⟨_,_,rfl,gA.1,gA.2⟩
 ·have HN:=zE hN;have iB:zGL (mix f g) (fun _=>0)=false:=Bool.eq_false_iff.2 (fun h=>hN ((zLl f g).1 h));clear hN;have tA:=zA9 62 61 (.agg #[.int .i64 0,.int .i64 0]) 2 16 (by kernel_rfl) zKV rfl 8 (by omega) (by omega);have kB:∀w,(Instr.makeSlice 62 (.int .i64 8) (.int .i64 8)).run Tryz.prog w = .ok (.slice (some ⟨w.heap.size,0,none⟩) 8 8) (w.alloc (.cells (zA2 #[.int .i64 0,.int .i64 0] 8) 61)):=tA;clear tA;have sA:=zC W (.cells (zA2 #[.int .i64 0,.int .i64 0] 8) 61);have nA:=zC W (.cells (zp (mix f g)) 61);have iA:=zE nA;have pA:(W.alloc (.cells (zA2 #[.int .i64 0,.int .i64 0] 8) 61)).heap[w.heap.size+1]?=some (.cells (zp (mix f g)) 155 (0,0)):=(sA.block _ (by omega)).trans HA.out;have fA:Hid (∀ty,(Builtin.copy_ #[62,62] ty #[.slice (some ⟨W.heap.size,0,none⟩) 8 8,.slice (some ⟨w.heap.size+1,0,none⟩) 8 8]).run Tryz.prog (W.alloc (.cells (zA2 #[.int .i64 0,.int .i64 0] 8) 61)) = .ok (goInt 8) (W.alloc (.cells (zp (mix f g)) 61))):=by
   intro ty;have vA:(zA2 #[.int .i64 0,.int .i64 0] 8).size=16:=(by kernel_rfl);have hr:=zER (P:=Tryz.prog) (W.alloc (.cells (zA2 #[.int .i64 0,.int .i64 0] 8) 61)) 62 62 ty 61 2 W.heap.size 0 8 8 ⟨w.heap.size+1,0,none⟩ 8 8 (zA2 #[.int .i64 0,.int .i64 0] 8) 61 (zp (mix f g)).toList (by kernel_rfl) zET (heap_alloc_last _ _) (by simp[zp]) (fun j v hj=>by
     have cA:j<16:=by
      have:=(List.getElem?_eq_some_iff.1 hj).1;simpa[qB]using this
     have e:(zp (mix f g)).toList[j]?=some (.int .i64 (mix f g j)):=(by rw[Array.getElem?_toList];exact yP (mix f g) cA);rw[e]at hj;simp only[Option.some.injEq]at hj;subst hj;rw[add_lit,Nat.zero_add];exact(zI pA (yP (mix f g) cA)).1) (by rw[vA];simp[zp]) (fun v hv=>(Array.all_eq_true_iff_forall_mem.1 (zAr _)) v (by simpa using hv))
   have e0:((zA2 #[.int .i64 0,.int .i64 0] 8).toList.drop 16) = []:=List.drop_eq_nil_of_le (by simp[vA]);have e1:((zA2 #[.int .i64 0,.int .i64 0] 8).toList.take 0 ++ (zp (mix f g)).toList ++ (zA2 #[.int .i64 0,.int .i64 0] 8).toList.drop (0+(zp (mix f g)).toList.length)).toArray=zp (mix f g):=by
    have hl:(zp (mix f g)).toList.length=16:=(by simp[zp]);rw[hl,Nat.zero_add,e0];simp
   rw[e1,World.setRow_alloc_new]at hr;exact hr
  have Hz:=zE hz;clear nA pA sA hz;have eB:=fA.out 3;obtain⟨⟨x4,x5⟩,⟨x6,x7⟩⟩:=HB.out.zRJ iA.out;go_wp2_with (first
   | (refine wpList_load_row rfl 155 (.tmp 4) rfl (w.heap.size+1) rfl 155 (zp (mix f g)) (0,0) _ HA.out zHE rfl eA.out ?_)
   | fail)
  have HS:Hid (qI (W.alloc (.cells (zp (mix f g)) 61)) 0 (W.alloc (.cells (zp (mix f g)) 61)).heap.size (.int .i64 (qW f g b).zRU) (.slice (some ⟨W.heap.size,0,none⟩) 8 8) (.string (qW f g b).data) (qW f g b)):=by
   refine⟨rfl,⟨by show 8<=maxLen;unfold maxLen;omega,_,8,rfl,Nat.le_refl _,fun _=>⟨W.heap.size,0,rfl,Nat.zero_le _,by simp,fun i hi=>?_⟩⟩,rfl,by show 0<=maxLen;omega⟩;have nB:i<8:=hi;have mA:(W.alloc (.cells (zp (mix f g)) 61)).heap[W.heap.size]?=some (.cells (zp (mix f g)) 61):=heap_alloc_last _ _;have g1:=(zI mA (yP (mix f g) (show i*2<16 by omega))).1;have g2:=(zI mA (yP (mix f g) (show i*2+1<16 by omega))).1;rw[(zGN f g i).1]at g1;rw[(zGN f g i).2]at g2;rw[Nat.zero_add];exact⟨g1,g2⟩
  refine(zGY _ _ _ lo hi 0 _ p (qW f g b) _ (Hp.out.zRJ (zA dA iA.out)) HS.out (by show qD p+(8+0)<=_;exact Hn.out)).mono ?_;rintro e w3 ⟨s0,s1,rfl,cB,rA⟩;have bA:=zA iA.out rA;have hz:=Hz.out;have aB:=zE (HR.out.zRJ bA);have dB:=zA dA bA;have mB:=bA.size;have He:Hid (zEz p f g b=zCy p (qW f g b)):=if_neg HN.out;have lA:Hid (zt w3 W.heap.size w3.heap.size s0 s1 (zCy p (qW f g b)).zRQ):=cB.zRO iA.out.size (Nat.le_refl _);generalize zCy p (qW f g b)=o at lA He ⊢;obtain⟨a1,c1,a2,c2,rfl,rfl⟩:=lA.out.form;clear cB rA bA x0 x1 x2 x3 x4 x5 x6 x7 hB HS fA eB;obtain⟨⟨u0,u1⟩,⟨u2,u3⟩,⟨u4,u5⟩,⟨u6,u7⟩,⟨u8,u9⟩⟩:=aB.out;go_wp2;have aA:=aB.out.put (.slice a1 o.zRQ.n c1) (.slice a2 o.zRQ.hn c2) (.int .i64 o.ps) (.int .i64 o.pb) (.int .i64 o.code);have gA:=zHI (R:=w.heap.size+1+1) (u2:=.int .i64 o.ps) (u3:=.int .i64 o.pb) (u4:=.int .i64 o.code) lA.out (by omega) (by omega) (Nat.le_refl _) dB;rw[He.out];exact bodyPost_ret (v:=.agg #[.slice a1 o.zRQ.n c1,.slice a2 o.zRQ.hn c2,.int .i64 o.ps,.int .i64 o.pb,.int .i64 o.code]) (by simp[results,Tryz.results161,go_sem,aA.1.1,aA.2.1.1,aA.2.2.1.1,aA.2.2.2.1.1,aA.2.2.2.2.1]) rfl ⟨_,_,rfl,gA.1,gA.2⟩
def zBB(f g:Nat->Int)(n:Nat):List (Int×Int):=(List.range n).map fun i=>(f i,g i)
theorem yG(f g:Nat->Int)(n:Nat):(zBB f g n).length=n:=by simp[zBB]
theorem zOQ(f g:Nat->Int)(n:Nat):zBB f g (n+1)=zBB f g n ++ [(f n,g n)]:=by simp[zBB,List.range_succ]
theorem zJs(f g:Nat->Int){n i:Nat}(h:i<n):zf (zBB f g n) i=f i/\zh (zBB f g n) i=g i:=by
 have:(zBB f g n).getD i (0,0)=(f i,g i):=by
  rw[List.getD_eq_getElem?_getD,List.getElem?_eq_getElem (by rw[yG];exact h),Option.getD_some];simp[zBB]
 unfold zf zh;rw[this];exact⟨rfl,rfl⟩
theorem zIT{f g f' g':Nat->Int}{n:Nat}(h:∀i,i<n->f i=f' i/\g i=g' i):zBB f g n=zBB f' g' n:=by
 unfold zBB;apply List.map_congr_left;intro i hi;rw[List.mem_range]at hi;rw[(h i hi).1,(h i hi).2]
theorem zJU{w:World}{b off:Nat}{f g:Nat->Int}:∀{n:Nat},(∀i,i<n->w.cell? ⟨b,off+i*2,none⟩=some (.int .i64 (f i))/\w.cell? ⟨b,off+i*2+1,none⟩=some (.int .i64 (g i)))->∀j u,(pcl (zBB f g n))[j]?=some u->w.cell? ⟨b,off+j,none⟩=some u
 | 0,_,j,u,hj=>by simp[zBB,pcl]at hj
 | n+1,h,j,u,hj=>by
  rw[zOQ,zBC]at hj;by_cases aA:j<n*2
  ·rw[List.getElem?_append_left (by rw[zA4,yG];exact aA)]at hj;exact zJU (fun i hi=>h i (by omega)) j u hj
  ·rw[List.getElem?_append_right (by rw[zA4,yG];omega),zA4,yG]at hj;obtain⟨h1,h2⟩:=h n (Nat.lt_succ_self n);have bA:j - n*2<2:=by
    have:=(List.getElem?_eq_some_iff.1 hj).1;simpa[pcl]using this
   by_cases e:j=n*2
   ·subst e;rw[h1];simpa[pcl]using hj
   ·obtain rfl:j=n*2+1:=(by omega);rw[show n*2+1 - n*2=1 by omega]at hj;rw[<-Nat.add_assoc,h2];simpa[pcl]using hj
def yk(p:zJ)(xs xb:Int)(i:Nat):Int:=if Nil xs xb then 0 else zb (p.s xs.toNat) i
def zAF(p:zJ)(xs xb:Int)(i:Nat):Int:=if Nil xs xb then 0 else zu (p.s xs.toNat) i
theorem zPq:pcl (zBB (fun _=>0) (fun _=>0) 8)=(zA2 #[.int .i64 0,.int .i64 0] 8).toList:=by kernel_rfl
theorem zCs(v0 v1:Value)(lo hi:Nat)(p:zJ)(xs xb:Int)(w:World)(h1:zy w lo hi v0 v1 p)(hP:Nil xs xb\/(zr p xs xb/\(p.s xs.toNat).kn=8)) :
  Calls Tryz.prog 85 #[.agg #[v0,v1],.agg #[.int .i64 xs,.int .i64 xb]] w fun e w'=>∃b cp,e = .returned (.slice (some ⟨b,0,none⟩) 8 cp)/\zw w' w.heap.size (.slice (some ⟨b,0,none⟩) 8 cp) (zBB (yk p xs xb) (zAF p xs xb) 8)/\Below w.heap.size w w':=by
 have Hp:=zE h1;have HP:=zE hP;obtain⟨a,c,a',c',rfl,rfl⟩:∃a c a' c',v0 = .slice a p.n c/\v1 = .slice a' p.hn c':=by
  obtain⟨⟨_,a,c,h1,_⟩,⟨_,a',c',h3,_⟩⟩:=h1;exact⟨a,c,a',c',h1,h3⟩
 clear h1 hP;have aB:=zBs w (.slice a p.n c) (.slice a' p.hn c') (.int .i64 xs) (.int .i64 xb) 33 61;obtain⟨i0,vA,lA⟩:=Option.map_eq_some_iff.1 zAz;simp only[Prod.mk.injEq]at lA;have HI:=zE (And.intro vA lA);clear vA lA;go_enter Tryz.func85,Tryz.ntmps85;go_wp2_with fail;generalize (w.alloc (.cells #[.slice a p.n c,.slice a' p.hn c'] 33)).alloc (.cells #[.int .i64 xs,.int .i64 xb] 61)=W at aB ⊢;obtain⟨hB,hX,nA,hz⟩:=aB;refine(yg xs xb W).mono ?_;rintro e w1 ⟨⟨t,rfl,ht⟩,fA⟩;have rA:=zE (hB.zRJ fA);have oA:=zE (hX.zRJ fA);have tA:=zA nA fA;have kB:w.heap.size+2<=w1.heap.size:=by have:=fA.size;omega
 clear hB hX nA fA hz;by_cases hn:Nil xs xb
 ·have HN:=zE hn;obtain rfl:t=true:=ht.2 hn;clear ht hn;have sA:=zA9 62 61 (.agg #[.int .i64 0,.int .i64 0]) 2 16 (by kernel_rfl) zKV rfl 8 (by omega) (by omega);have fB:∀w,(Instr.makeSlice 62 (.int .i64 8) (.int .i64 8)).run Tryz.prog w = .ok (.slice (some ⟨w.heap.size,0,none⟩) 8 8) (w.alloc (.cells (zA2 #[.int .i64 0,.int .i64 0] 8) 61)):=sA;clear sA;have eA:=World.ownsRow_lit (e:=61) (size:=2) (base:=w.heap.size) w1 (zA2 #[.int .i64 0,.int .i64 0] 8) 8 (by omega) (by unfold maxLen;omega) (by decide +kernel);have dB:=zA tA (zC w1 (.cells (zA2 #[.int .i64 0,.int .i64 0] 8) 61));have cA:=zE eA;clear eA;go_wp2;go_ret;refine⟨_,_,rfl,?_,dB⟩;have e0:zBB (yk p xs xb) (zAF p xs xb) 8=zBB (fun _=>0) (fun _=>0) 8:=zIT (fun i _=>⟨if_pos HN.out,if_pos HN.out⟩);unfold zw;rw[e0,zPq,yG];exact cA.out
 ·have HN:=zE hn;obtain rfl:t=false:=zQ ht hn;clear ht hn;obtain⟨kA,h8⟩:=HP.out.resolve_left HN.out;have dA:Hid (zBB (yk p xs xb) (zAF p xs xb) 8=zBB (p.s xs.toNat).ks (p.s xs.toNat).kb 8):=zIT (fun i hi=>⟨(if_neg HN.out).trans (zCw h8 hi),(if_neg HN.out).trans (zEj h8 hi)⟩);obtain⟨k,rfl⟩:=Int.eq_ofNat_of_zero_le kA.2.1;have hk:k<p.n:=(by have:=kA.2.2.1;omega);have mB:(k:Int)<(p.n:Int):=(by omega);rw[Int.toNat_natCast]at h8 dA;clear kA HP;obtain⟨b,off,ka,kc,rfl,mA⟩:=Hp.out.1.cells hk;have pA:Hid (zR w lo hi (.slice ka 8 kc) 8 (p.s k).ks (p.s k).kb):=(by have:=mA.slot.2.1;rw[h8]at this;exact this);have iA:=zC w1 (.cells #[] 61);have gA:=zA tA iA;obtain⟨q0,q1,q2,_⟩:=mA.zRJ gA;rw[h8]at q1;have jB:=zE (rA.out.zRJ iA);have iB:=zE (oA.out.zRJ iA);have cA:=zE (World.ownsRow_lit (e:=61) (size:=2) (base:=w.heap.size) w1 #[] 0 (by omega) (by unfold maxLen;omega) rfl);have lB:(w1.alloc (.cells #[] 61)).heap.size=w1.heap.size+1:=World.size_alloc _ _;obtain⟨⟨x0,x1⟩,⟨x2,x3⟩⟩:=jB.out;obtain⟨⟨y0,y1⟩,⟨y2,y3⟩⟩:=iB.out;have cB:=zE (pA.out.zRJ gA);clear iA mA rA oA h8 pA;go_wp2_with (first
   | (at_builtin;refine qJ rfl _ _ 62 rfl w.heap.size 61 i0 (.agg #[.int .i64 0,.int .i64 0]) 2 16 (by kernel_rfl) HI.out.1 HI.out.2.1 HI.out.2.2.1 HI.out.2.2.2 rfl (by decide) (.slice (some ⟨w1.heap.size,0,none⟩) 0 0) 0 [] rfl ?c0 ka 8 kc (pcl (zBB (p.s k).ks (p.s k).kb 8)) rfl (by rw[zA4,yG]) (zFr _) ?c1 ?c3 ?c4 ?c5 ?_)
   | fail)
  case c0=>exact cA.out
  case c1=>
   intro h0;obtain⟨_,a2,c2,hv,_,hx⟩:=cB.out;simp only[Value.slice.injEq,true_and]at hv;obtain⟨rfl,rfl⟩:=hv;obtain⟨kb,jA,ha,_,_,h3⟩:=hx (by omega);exact⟨kb,jA,ha,zJU h3⟩
  case c3=>unfold maxLen;omega
  case c4=>omega
  case c5=>omega
  intro v3 w3 aA bA;obtain⟨g3,eB,rfl,_⟩:=World.ownsRow.form aA (by omega);have gB:Hid (zw w3 w.heap.size (.slice (some ⟨g3,0,none⟩) 8 eB) (zBB (yk p k xb) (zAF p k xb) 8)):=by
   unfold zw;rw[dA.out,yG];exact aA
  have bB:=gA.grown bA gA.size (fun q hq=>by simp only[Value.ownBlock,Option.some.injEq]at hq;omega);clear aA bA;go_wp2;go_ret;exact⟨_,_,rfl,gB.out,bB⟩
def zJ3(p:zJ)(xs xb:Int):Prop:=Nil xs xb\/(zr p xs xb/\(p.s xs.toNat).kn=8)
theorem zKw{p:zJ}{xs xb:Int}(h:yj p xs xb):zJ3 p xs xb:=by
 rcases h.2 with h2 | h2
 ·exact Or.inl h2
 ·right;refine⟨h2.1.1,?_⟩;rcases zDJ h.1 h2.1.1 with h3 | h3
  ·have:=h2.1.2.1;omega
  ·exact h3
theorem zKj{p:zJ}{xs xb:Int}(h:yj p xs xb){j:Nat}(hj:j<8):zJ3 p (yk p xs xb j) (zAF p xs xb j):=by
 by_cases hz:Nil xs xb
 ·left;unfold yk zAF;rw[if_pos hz,if_pos hz];exact⟨rfl,rfl⟩
 ·unfold yk zAF;rw[if_neg hz,if_neg hz];rcases(h.2.resolve_left hz).2.1.1 j hj with h2 | h2
  ·exact Or.inl h2
  ·right;refine⟨h2.1.1,?_⟩;rcases zDJ h.1 h2.1.1 with h3 | h3
   ·have:=h2.1.2.1;omega
   ·exact h3
def qy(p:zJ)(xs xb:Int)(n:Nat):Int:=yk p xs xb (n / 8)
def yL(p:zJ)(xs xb:Int)(n:Nat):Int:=zAF p xs xb (n / 8)
def qp(p:zJ)(xs xb:Int)(n:Nat):Int:=yk p (qy p xs xb n) (yL p xs xb n) (n % 8)
def qo(p:zJ)(xs xb:Int)(n:Nat):Int:=zAF p (qy p xs xb n) (yL p xs xb n) (n % 8)
theorem zNE{p:zJ}{xs xb:Int}(h:yj p xs xb){n:Nat}(hn:n<64):Nil (qp p xs xb n) (qo p xs xb n)\/zEJ p (qp p xs xb n) (qo p xs xb n):=by
 by_cases hz:Nil xs xb
 ·left;have e:Nil (qy p xs xb n) (yL p xs xb n):=(by unfold qy yL yk zAF;rw[if_pos hz,if_pos hz];exact⟨rfl,rfl⟩);unfold qp qo yk zAF;rw[if_pos e,if_pos e];exact⟨rfl,rfl⟩
 ·have e1:qy p xs xb n=zb (p.s xs.toNat) (n / 8):=if_neg hz;have e2:yL p xs xb n=zu (p.s xs.toNat) (n / 8):=if_neg hz;by_cases aA:Nil (qy p xs xb n) (yL p xs xb n)
  ·left;unfold qp qo yk zAF;rw[if_pos aA,if_pos aA];exact⟨rfl,rfl⟩
  ·have e3:qp p xs xb n=zb (p.s (qy p xs xb n).toNat) (n % 8):=if_neg aA;have e4:qo p xs xb n=zu (p.s (qy p xs xb n).toNat) (n % 8):=if_neg aA;rw[e3,e4];rcases(h.2.resolve_left hz).2.1.1 (n / 8) (by omega)with h2 | h2
   ·rw[<-e1,<-e2]at h2;exact absurd h2 aA
   ·have:=h2.2.1 (n % 8) (by omega);rw[<-e1]at this;exact this
theorem zQj(w:World)(a0 a1 x0 x1:Value)(t1 t2:TypeId) :
  zc ((((w.alloc (.cells #[a0,a1] t1)).alloc (.cells #[x0,x1] t2)).alloc (.cells #[.int .i64 0,.int .i64 0] t2)).alloc (.cells #[.int .i64 0,.int .i64 0] t2)) w.heap.size a0 a1/\
  zc ((((w.alloc (.cells #[a0,a1] t1)).alloc (.cells #[x0,x1] t2)).alloc (.cells #[.int .i64 0,.int .i64 0] t2)).alloc (.cells #[.int .i64 0,.int .i64 0] t2)) (w.heap.size+1) x0 x1/\
  zc ((((w.alloc (.cells #[a0,a1] t1)).alloc (.cells #[x0,x1] t2)).alloc (.cells #[.int .i64 0,.int .i64 0] t2)).alloc (.cells #[.int .i64 0,.int .i64 0] t2)) (w.heap.size+2) (.int .i64 0) (.int .i64 0)/\
  zc ((((w.alloc (.cells #[a0,a1] t1)).alloc (.cells #[x0,x1] t2)).alloc (.cells #[.int .i64 0,.int .i64 0] t2)).alloc (.cells #[.int .i64 0,.int .i64 0] t2)) (w.heap.size+2+1) (.int .i64 0) (.int .i64 0)/\
  Below w.heap.size w ((((w.alloc (.cells #[a0,a1] t1)).alloc (.cells #[x0,x1] t2)).alloc (.cells #[.int .i64 0,.int .i64 0] t2)).alloc (.cells #[.int .i64 0,.int .i64 0] t2))/\
  ((((w.alloc (.cells #[a0,a1] t1)).alloc (.cells #[x0,x1] t2)).alloc (.cells #[.int .i64 0,.int .i64 0] t2)).alloc (.cells #[.int .i64 0,.int .i64 0] t2)).heap.size=w.heap.size+4:=by
 obtain⟨h1,h2,h3,h4⟩:=zBs w a0 a1 x0 x1 t1 t2;generalize (w.alloc (.cells #[a0,a1] t1)).alloc (.cells #[x0,x1] t2)=W at h1 h2 h3 h4 ⊢;have b1:=zC W (.cells #[.int .i64 0,.int .i64 0] t2);have b2:=zC (W.alloc (.cells #[.int .i64 0,.int .i64 0] t2)) (.cells #[.int .i64 0,.int .i64 0] t2);have n1:=(zc.zRL W (.int .i64 0) (.int .i64 0) t2).zRJ b2;have n2:=zc.zRL (W.alloc (.cells #[.int .i64 0,.int .i64 0] t2)) (.int .i64 0) (.int .i64 0) t2;rw[h4]at n1;rw[World.size_alloc,h4]at n2;exact⟨(h1.zRJ b1).zRJ b2,(h2.zRJ b1).zRJ b2,n1,n2,zA (zA h3 b1) b2,by rw[World.size_alloc,World.size_alloc,h4]⟩
theorem ql(w:World)(b:Nat)(u v:Value):zF (fun k=>k=b) w ((w.setCell ⟨b,0,none⟩ u).setCell ⟨b,1,none⟩ v):=((zF.refl (fun k=>k=b) w).setCell (p:=⟨b,0,none⟩) rfl u).setCell (p:=⟨b,1,none⟩) rfl v
theorem zPj{w:World}{base g cp:Nat}{f h:Nat->Int}(hr:zw w base (.slice (some ⟨g,0,none⟩) 8 cp) (zBB f h 8)){i:Nat}(hi:i<8):w.cell? ⟨g,i*2,none⟩=some (.int .i64 (f i))/\w.cell? ⟨g,i*2+1,none⟩=some (.int .i64 (h i)):=by
 obtain⟨b,bA,e,_,_,_,aA⟩:=qf hr (by rw[yG];omega);simp only[Value.slice.injEq,Option.some.injEq,Addr.mk.injEq,and_true]at e;obtain⟨rfl,_⟩:=e;have h1:=(aA _ _ (zBa (zBB f h 8) i (by rw[yG];exact hi)).1).1;have h2:=(aA _ _ (zBa (zBB f h 8) i (by rw[yG];exact hi)).2).1;have:=zJs f h hi;unfold zf zh at this;rw[this.1]at h1;rw[this.2]at h2;exact⟨h1,h2⟩
theorem zLK(v0 v1:Value)(lo hi:Nat)(p:zJ)(xs xb:Int)(n:Nat)(w:World)(h1:zy w lo hi v0 v1 p)(hT:yj p xs xb)(hn:n<64) :
  Calls Tryz.prog 83 #[.agg #[v0,v1],.agg #[.int .i64 xs,.int .i64 xb],.int .i64 (n:Int)] w fun e w'=>e = .returned (.tuple #[.agg #[.int .i64 (qp p xs xb n),.int .i64 (qo p xs xb n)],.agg #[.int .i64 (qy p xs xb n),.int .i64 (yL p xs xb n)]])/\Below w.heap.size w w':=by
 have Hp:=zE h1;have HT:=zE hT;obtain⟨a,c,a',c',rfl,rfl⟩:∃a c a' c',v0 = .slice a p.n c/\v1 = .slice a' p.hn c':=by
  obtain⟨⟨_,a,c,h1,_⟩,⟨_,a',c',h3,_⟩⟩:=h1;exact⟨a,c,a',c',h1,h3⟩
 clear h1 hT;have pA:=zQj w (.slice a p.n c) (.slice a' p.hn c') (.int .i64 xs) (.int .i64 xb) 33 61;have hq:(n:Int).tdiv 8=((n / 8:Nat):Int):=(Int.ofNat_tdiv n 8).symm;have hr:(n:Int).tmod 8=((n % 8:Nat):Int):=(Int.ofNat_tmod n 8).symm;have fB:((n / 8:Nat):Int)<8:=by omega
 have aB:((n % 8:Nat):Int)<8:=by omega
 have vA:(n:Int)<64:=by omega
 have bB:0<=(n:Int) % 8:=by omega
 have eB:(n:Int) % 8<8:=by omega
 have dB:((n:Int) % 8).toNat=n % 8:=by omega
 go_enter Tryz.func83,Tryz.ntmps83;go_wp2_with fail;generalize ((((w.alloc (.cells #[.slice a p.n c,.slice a' p.hn c'] 33)).alloc (.cells #[.int .i64 xs,.int .i64 xb] 61)).alloc (.cells #[.int .i64 0,.int .i64 0] 61)).alloc (.cells #[.int .i64 0,.int .i64 0] 61))=W0 at pA ⊢;obtain⟨hB,hX,kA,mA,dA,hz⟩:=pA;refine(zCs _ _ lo hi p xs xb W0 (Hp.out.zRJ dA) (zKw HT.out)).mono ?_;rintro e w1 ⟨g,cp,rfl,eA,iA⟩;obtain⟨q0,q1⟩:=zPj eA (show n / 8<8 by omega);have oA:=zC w1 (.cells #[.int .i64 (yk p xs xb (n / 8)),.int .i64 (zAF p xs xb (n / 8))] 61);have hC:=zA iA oA;have cA:=zE (hB.zRJ hC);have lA:=zE (kA.zRJ hC);have nA:=zE (mA.zRJ hC);have bA:=zE (show zc (w1.alloc (.cells #[.int .i64 (yk p xs xb (n / 8)),.int .i64 (zAF p xs xb (n / 8))] 61)) w1.heap.size (.int .i64 (qy p xs xb n)) (.int .i64 (yL p xs xb n))from zc.zRL w1 _ _ _);have gA:=zA dA hC;have sA:=zE (show zJ3 p (qy p xs xb n) (yL p xs xb n)from zKj HT.out (by omega));have tA:w.heap.size+4<=w1.heap.size:=by have:=iA.size;omega
 clear eA iA oA hC hB hX kA mA dA hz;have jA:w1.heap.size<(w1.alloc (.cells #[.int .i64 (yk p xs xb (n / 8)),.int .i64 (zAF p xs xb (n / 8))] 61)).heap.size:=by rw[World.size_alloc];omega
 go_wp2_with fail;generalize w1.alloc (.cells #[.int .i64 (yk p xs xb (n / 8)),.int .i64 (zAF p xs xb (n / 8))] 61)=W at cA lA nA bA gA jA ⊢;clear q0 q1;generalize w1.heap.size=X at bA tA jA ⊢;obtain⟨⟨x0,x1⟩,⟨x2,x3⟩⟩:=cA.out;obtain⟨⟨y0,y1⟩,⟨y2,y3⟩⟩:=bA.out;refine wp_region_held_drew (S:=(fun w'=>w'.cell? ⟨w.heap.size,0,none⟩=some (.slice a p.n c)/\w'.cell? ⟨w.heap.size,1,none⟩=some (.slice a' p.hn c')/\w'.cell? ⟨X,0,none⟩=some (.int .i64 (qy p xs xb n))/\w'.cell? ⟨X,1,none⟩=some (.int .i64 (yL p xs xb n)))) (by kernel_rfl) ?_ (fun hHeld=>?_)
 ·(try dsimp only)
  go_keep
 refine tk 0 (h:=tk 1 (h:=tk 3 (h:=tk 4 (h:=tk 7 (h:=?_)))));refine rd [2] (rc (fun K hK=>?_) .nil);go_simp;go_at_call 85;refine(zCs _ _ lo hi p (qy p xs xb n) (yL p xs xb n) _ ?_ sA.out).mono ?_
 ·first | exact Hp.out.zRJ gA | exact Hp.out.zRJ gA.drew
 rintro e wa ⟨g2,cB,rfl,fA,dA⟩;have aA:Below W.heap.size W wa:=(by first | exact dA | exact zK dA);obtain⟨⟨k0,_⟩,⟨k1,_⟩⟩:=cA.out.zRJ aA;obtain⟨⟨k2,_⟩,⟨k3,_⟩⟩:=bA.out.zRJ aA;obtain⟨r0,r1⟩:=zPj fA (show n % 8<8 by omega);obtain⟨⟨l0,l1⟩,⟨l2,l3⟩⟩:zc wa (w.heap.size+1+1) (.int .i64 0) (.int .i64 0):=lA.out.zRJ aA;obtain⟨⟨m0,m1⟩,⟨m2,m3⟩⟩:zc wa (w.heap.size+1+1+1) (.int .i64 0) (.int .i64 0):=nA.out.zRJ aA
 (try go_wp2_with fail)
 refine hK.out _ _ (by(try dsimp only);go_keep) ?_;clear hK K hHeld;intro hHeld
 try simp only[Act.put,s1,s2,s3]
 refine tk 5 (h:=?_);refine rd [6] (rc (fun K hK=>?_) .nil);go_simp
 (try go_wp2_with fail)
 refine hK.out _ _ (by(try dsimp only);go_keep) ?_;clear hK K hHeld;intro hHeld
 try simp only[Act.put,s1,s2,s3]
 refine rd [8] (rc (fun K hK=>?_) .nil);go_simp
 (try go_wp2_with fail)
 refine hK.out _ _ (by(try dsimp only);exact⟨((cA.out.zRJ aA).zRR (ql _ _ _ _) (by omega)).1.1,((cA.out.zRJ aA).zRR (ql _ _ _ _) (by omega)).2.1,((bA.out.zRJ aA).zRR (ql _ _ _ _) (by omega)).1.1,((bA.out.zRJ aA).zRR (ql _ _ _ _) (by omega)).2.1⟩) ?_;clear hK K hHeld;intro hHeld
 try simp only[Act.put,s1,s2,s3]
 refine rd [9] (rc (fun K hK=>?_) .nil);go_simp
 (try go_wp2_with fail)
 refine hK.out _ _ (by(try dsimp only);exact⟨(((cA.out.zRJ aA).zRR (ql _ _ _ _) (by omega)).zRR (ql _ _ _ _) (by omega)).1.1,(((cA.out.zRJ aA).zRR (ql _ _ _ _) (by omega)).zRR (ql _ _ _ _) (by omega)).2.1,(((bA.out.zRJ aA).zRR (ql _ _ _ _) (by omega)).zRR (ql _ _ _ _) (by omega)).1.1,(((bA.out.zRJ aA).zRR (ql _ _ _ _) (by omega)).zRR (ql _ _ _ _) (by omega)).2.1⟩) ?_;clear hK K hHeld;intro hHeld
 try simp only[Act.put,s1,s2,s3]
 refine wpAnyH_done (by kernel_rfl) ?_ _;have rA:Below w.heap.size w wa:=zA gA aA;go_wp2;refine bodyPost_ret (v:=.tuple #[.agg #[.int .i64 (qp p xs xb n),.int .i64 (qo p xs xb n)],.agg #[.int .i64 (qy p xs xb n),.int .i64 (yL p xs xb n)]]) (by simp[results,Tryz.results83,go_sem,l0,l2,m0,m2,qp,qo]) rfl ⟨rfl,?_⟩;exact(((rA.setCell (by show w.heap.size<=w.heap.size+1+1;omega) _).setCell (by show w.heap.size<=w.heap.size+1+1;omega) _).setCell (by show w.heap.size<=w.heap.size+1+1+1;omega) _).setCell (by show w.heap.size<=w.heap.size+1+1+1;omega) _
def hop(J:Nat->Act->World->Prop)(Q:Exit->Act->World->Prop):Exit->Act->World->Prop
 | .goto l,a,w=>J l a w
 | e,a,w=>Q e a w
def JU(P:Program)(c:Code)(Q:Exit->Act->World->Prop):Nat->Nat->Act->World->Prop
 | 0,_,_,_=>False
 | n+1,l,a,w=>∃rest,findLabel c l=some rest/\rest.wp P (hop (JU P c Q n) Q) a w
theorem zI1{P:Program}{a:Act}{w:World}{Q:Exit->Act->World->Prop}{c:Code}(n:Nat)(first:c.wp P (hop (JU P c Q n) Q) a w):(Code.scope c).wp P Q a w:=by
 intro b k cs;have key:∀n l dA a w,findLabel c l=some dA->dA.wp P (hop (JU P c Q n) Q) a w->∃e a' w',Q e a' w'/\Arrives P (lone (b.at a (.code dA :: .inScope c :: k)) cs w) b k cs e a' w':=by
  intro n
  induction n with
  | zero=>
   intro l dA a w hf hw;obtain⟨e,a₁,w₁,hq,aA⟩:=hw b (.inScope c :: k) cs;cases e with
   | normal=>exact⟨.normal,a₁,w₁,hq,Steps.trans aA (.one step_inScope)⟩
   | exit id=>exact⟨.exit id,a₁,w₁,hq,fun k' hk=>aA k' (by simp[exitTo,hk])⟩
   | goto l'=>exact False.elim hq
   | ret=>exact⟨_,a₁,w₁,hq,aA⟩
   | panic ch=>exact⟨_,a₁,w₁,hq,aA⟩
   | outgrown=>exact⟨_,a₁,w₁,hq,aA⟩
  | succ n ih=>
   intro l dA a w hf hw;obtain⟨e,a₁,w₁,hq,aA⟩:=hw b (.inScope c :: k) cs;cases e with
   | normal=>exact⟨.normal,a₁,w₁,hq,Steps.trans aA (.one step_inScope)⟩
   | exit id=>exact⟨.exit id,a₁,w₁,hq,fun k' hk=>aA k' (by simp[exitTo,hk])⟩
   | goto l'=>
    obtain⟨bA,eA,fA⟩:=hq;obtain⟨e₂,a₂,w₂,gA,cA⟩:=ih l' bA a₁ w₁ eA fA;have hg:gotoIn l' (.inScope c :: k)=some (.code bA :: .inScope c :: k):=(by simp[gotoIn,eA]);exact⟨e₂,a₂,w₂,gA,.of_steps (aA _ hg) cA⟩
   | ret=>exact⟨_,a₁,w₁,hq,aA⟩
   | panic ch=>exact⟨_,a₁,w₁,hq,aA⟩
   | outgrown=>exact⟨_,a₁,w₁,hq,aA⟩
 obtain⟨e,a₁,w₁,hq,aA⟩:=first b (.inScope c :: k) cs
 cases e with
 | normal=>exact⟨.normal,a₁,w₁,hq,.head step_scope (Steps.trans aA (.one step_inScope))⟩
 | exit id=>exact⟨.exit id,a₁,w₁,hq,fun k' hk=>.head step_scope (aA k' (by simp[exitTo,hk]))⟩
 | goto l'=>
  match n,hq with
  | n+1,hq=>
   obtain⟨bA,eA,fA⟩:=hq;obtain⟨e₂,a₂,w₂,gA,cA⟩:=key n l' bA a₁ w₁ eA fA;have hg:gotoIn l' (.inScope c :: k)=some (.code bA :: .inScope c :: k):=(by simp[gotoIn,eA]);exact⟨e₂,a₂,w₂,gA,.of_steps (.head step_scope (aA _ hg)) cA⟩
 | ret=>exact⟨_,a₁,w₁,hq,.of_steps (.one step_scope) aA⟩
 | panic ch=>exact⟨_,a₁,w₁,hq,.of_steps (.one step_scope) aA⟩
 | outgrown=>exact⟨_,a₁,w₁,hq,.of_steps (.one step_scope) aA⟩
def zNt:Array Value:=#[.int .i64 0,.int .i64 0,.int .i64 0,.int .i64 0,.int .i64 0,.int .i64 0,.int .i64 0,.int .i64 0,.int .i64 0,.int .i64 0,.int .i64 0,.int .i64 0,.int .i64 0,.int .i64 0,.int .i64 0,.int .i64 0,.int .i64 0,.int .i64 0,.int .i64 0,.int .i64 0,.int .i64 0,.int .i64 0,.int .i64 0,.int .i64 0,.int .i64 0,.int .i64 0,.int .i64 0,.int .i64 0,.int .i64 0,.int .i64 0,.int .i64 0,.int .i64 0,.int .i64 0,.int .i64 0,.int .i64 0,.int .i64 0,.int .i64 0,.int .i64 0,.int .i64 0,.int .i64 0,.slice none 0 0]
def zIJ(n:Nat):Array Value:=#[.int .i64 ((n:Int) / 8),.int .i64 ((n:Int) % 8),.int .i64 0,.int .i64 0,.int .i64 0,.int .i64 0,.int .i64 0,.int .i64 0,.int .i64 0,.int .i64 0,.int .i64 0,.int .i64 0,.int .i64 0,.int .i64 0,.int .i64 0,.int .i64 0,.int .i64 0,.int .i64 0,.int .i64 0,.int .i64 0,.int .i64 0,.int .i64 0,.int .i64 0,.int .i64 0,.int .i64 0,.int .i64 0,.int .i64 0,.int .i64 0,.int .i64 0,.int .i64 0,.int .i64 0,.int .i64 0,.int .i64 0,.int .i64 0,.int .i64 0,.int .i64 0,.int .i64 0,.int .i64 0,.int .i64 0,.int .i64 0,.slice none 0 0]
theorem zKr:(Tryz.prog.info? 159).map (·.size)=some 41:=by kernel_rfl
theorem zPH(n:Nat):(Tryz.prog.info? 159).map (·.size)=some (zIJ n).size:=zKr
theorem zPd(n:Nat):(zIJ n).all (·.oneCell')=true:=by simp[zIJ,Value.oneCell']
def yQ(w:World)(B:Nat)(f:Nat->Value):Prop:=∀i,i<41->zX w B i (f i)
theorem yQ.zRJ{w w':World}{B:Nat}{f:Nat->Value}(h:yQ w B f)(t:Below w.heap.size w w'):yQ w' B f:=fun i hi=>(h i hi).zRJ t
theorem yQ.zRR{S:Nat->Prop}{w w':World}{B:Nat}{f:Nat->Value}(h:yQ w B f)(t:zF S w w')(hs:¬S B):yQ w' B f:=fun i hi=>(h i hi).zRR t hs
theorem yQ.congr{w:World}{B:Nat}{f g:Nat->Value}(h:yQ w B f)(e:∀i,i<41->f i=g i):yQ w B g:=fun i hi=>e i hi▸h i hi
theorem yQ.put{w:World}{B:Nat}{f:Nat->Value}(h:yQ w B f)(o:Nat)(v:Value):yQ (w.setCell ⟨B,o,none⟩ v) B (fun i=>if i=o then v else f i):=fun i hi=>by
 show zX _ B i (if i=o then v else f i);by_cases e:i=o
 ·subst e;rw[if_pos rfl];exact(h i hi).set v
 ·rw[if_neg e];exact(h i hi).zRK v (Or.inr (fun h=>e h.symm))
theorem yQ.there{w:World}{B:Nat}{f:Nat->Value}(h:yQ w B f){o n:Nat}(hn:o+n<=41):w.there B o n:=fun j hj=>⟨by rw[(h (o+j) (by omega)).1];rfl,(h (o+j) (by omega)).2⟩
theorem yQ.range{w:World}{B:Nat}{f:Nat->Value}(h:yQ w B f):w.rangeAt B 0 ((List.range 41).map f):=fun j v hv=>by
 have hj:j<41:=by have:=(List.getElem?_eq_some_iff.1 hv).1;simpa using this
 rw[Nat.zero_add,(h j hj).1];simpa[hj]using hv
theorem yQ.puts{w:World}{B:Nat}{f:Nat->Value}(h:yQ w B f)(o:Nat)(vs:List Value)(hv:o+vs.length<=41):yQ (w.setCells B o vs) B (fun i=>if o<=i/\i<o+vs.length then vs.getD (i - o) undef else f i):=fun i hi=>by
 refine⟨?_,?_⟩
 ·show _=some (if o<=i/\i<o+vs.length then vs.getD (i - o) undef else f i);by_cases e:o<=i/\i<o+vs.length
  ·rw[if_pos e];have:=World.cell?_setCells_in B vs o w (fun j hj=>by rw[(h (o+j) (by omega)).1];rfl) (i - o) (by omega);rw[show o+(i - o)=i by omega]at this;rw[this,List.getD_eq_getElem?_getD,List.getElem?_eq_getElem (by omega),Option.getD_some]
  ·rw[if_neg e,World.cell?_setCells_out B vs o w ⟨B,i,none⟩ (fun _ _=>by show i<o\/o+vs.length<=i;omega)];exact(h i hi).1
 ·rw[World.frozen?_setCells];exact(h i hi).2
def zAS(f:Nat->Value):Array Value:=((List.range 41).map f).toArray
theorem zEg(f:Nat->Value):(zAS f).size=41:=by simp[zAS]
theorem zDE(f:Nat->Value):(Tryz.prog.info? 159).map (·.size)=some (zAS f).size:=by rw[zEg];exact zKr
theorem zO8:(Tryz.prog.underlying 159).map (fun d=>d.isRow)=some true:=by kernel_rfl
def zQP(n:Nat)(i:Nat):Value:=if i=0 then .int .i64 ((n:Int) / 8)else if i=1 then .int .i64 ((n:Int) % 8)else if i=40 then .slice none 0 0 else .int .i64 0
theorem zQD(W:World)(n:Nat):yQ (W.alloc (.cells (zIJ n) 159)) W.heap.size (zQP n):=fun i hi=>by
 refine zI (i:=i) (heap_alloc_new W (.cells (zIJ n) 159)) ?_;have:zIJ n=zAS (zQP n):=by rfl
 rw[this];simp[zAS,hi]
theorem zLy{J J':Nat->Act->World->Prop}{Q:Exit->Act->World->Prop}(h:∀l a w,J l a w->J' l a w):∀{e:Exit} {a:Act} {w:World},hop J Q e a w->hop J' Q e a w
 | .goto l,a,w,he=>h l a w he
 | .normal,_,_,he=>he
 | .exit _,_,_,he=>he
 | .ret,_,_,he=>he
 | .panic _,_,_,he=>he
 | .outgrown,_,_,he=>he
theorem zKG{P:Program}{a:Act}{w:World}{Q:Exit->Act->World->Prop}{c:Code}(R:Nat->Nat->Act->World->Prop)(n:Nat)(zero:∀l a w,¬R 0 l a w)
  (step:∀n l a w,R (n+1) l a w->∃aA,findLabel c l=some (Code.skip.seq aA)/\aA.wp P (hop (R n) Q) a w)
  (first:(∀l a w aA,findLabel c l=some (Code.skip.seq aA)->R (n+1) l a w->aA.wp P (hop (R n) Q) a w)->c.wp P (hop (R n) Q) a w):(Code.scope c).wp P Q a w:=by
 have key:∀n l a w,R n l a w->JU P c Q n l a w:=by
  intro n
  induction n with
  | zero=>intro l a w h;exact absurd h (zero l a w)
  | succ n ih=>
   intro l a w h;obtain⟨aA,hf,hw⟩:=step n l a w h;exact⟨_,hf,Code.wp_mono (fun e a w he=>zLy ih he) (wp_seq (wp_skip hw))⟩
 refine zI1 n (Code.wp_mono (fun e a w he=>zLy (key n) he) (first ?_));intro l a w aA hf hR;obtain⟨cA,bA,hw⟩:=step n l a w hR;rw[hf]at bA;simp only[Option.some.injEq,Code.seq.injEq,true_and]at bA;rw[bA];exact hw
def qq(p:zJ)(xs xb:Int)(n L:Nat):Int:=if L=0 then xs else if L=1 then qy p xs xb n else qp p xs xb n
def yR(p:zJ)(xs xb:Int)(n L:Nat):Int:=if L=0 then xb else if L=1 then yL p xs xb n else qo p xs xb n
def plc(n L:Nat):Nat:=if L=0 then n / 8 else n % 8
def zB9(p:zJ)(xs xb:Int)(n L j:Nat):Int:=if Nil (qq p xs xb n L) (yR p xs xb n L)then 0 else zk (p.s (qq p xs xb n L).toNat) j
theorem zDG(p:zJ)(xs xb:Int)(n:Nat){L:Nat}(h:L<2):qq p xs xb n (L+1)=zB9 p xs xb n L (plc n L*2)/\yR p xs xb n (L+1)=zB9 p xs xb n L (plc n L*2+1):=by
 rcases L with _ | _ | L
 ·exact⟨rfl,rfl⟩
 ·exact⟨rfl,rfl⟩
 ·omega
theorem zHq{n L:Nat}(h:n<64):plc n L<8:=by unfold plc;split<;>omega
theorem zEc{p:zJ}{xs xb:Int}{n L:Nat}(h:Nil (qq p xs xb n L) (yR p xs xb n L))(hL:L<2):Nil (qq p xs xb n (L+1)) (yR p xs xb n (L+1)):=by
 rw[(zDG p xs xb n hL).1,(zDG p xs xb n hL).2];unfold zB9;rw[if_pos h,if_pos h];exact⟨rfl,rfl⟩
theorem zQq{p:zJ}{xs xb:Int}{n L:Nat}(h:yj p xs xb)(hn:n<64)(hL:L<2):zJ3 p (qq p xs xb n L) (yR p xs xb n L):=by
 rcases L with _ | _ | L
 ·exact zKw h
 ·exact zKj h (by omega)
 ·omega
def yH(p:zJ)(xs xb:Int)(n K M:Nat)(o:Value)(i:Nat):Value:=
 if i<2 then .int .i64 (plc n i:Nat)
 else if i<34 then .int .i64 (if (i - 2) / 16<K then zB9 p xs xb n ((i - 2) / 16) ((i - 2) % 16)else 0)
 else if i<40 then .int .i64 (if (i - 34) / 2<M then(if (i - 34) % 2=0 then qq p xs xb n ((i - 34) / 2)else yR p xs xb n ((i - 34) / 2))else 0)
 else o
theorem zOl(p:zJ)(xs xb:Int)(n:Nat){i:Nat}(hi:i<41):zQP n i=yH p xs xb n 0 0 (.slice none 0 0) i:=by
 unfold zQP yH;by_cases h0:i=0
 ·subst h0;rfl
 by_cases h1:i=1
 ·subst h1;rfl
 rw[if_neg h0,if_neg h1,if_neg (show ¬i<2 by omega)];by_cases h2:i=40
 ·subst h2;rfl
 rw[if_neg h2];by_cases h3:i<34
 ·rw[if_pos h3,if_neg (Nat.not_lt_zero _)]
 ·rw[if_neg h3,if_pos (by omega),if_neg (Nat.not_lt_zero _)]
theorem zQJ{p:zJ}{xs xb:Int}{n K L:Nat}{o:Value}{w:World}{B:Nat}(hL:L<3)(h:yQ w B (yH p xs xb n K L o)) :
  yQ ((w.setCell ⟨B,34+L*2,none⟩ (.int .i64 (qq p xs xb n L))).setCell ⟨B,34+L*2+1,none⟩ (.int .i64 (yR p xs xb n L))) B (yH p xs xb n K (L+1) o):=by
 refine((h.put _ _).put _ _).congr fun i hi=>?_
 show(if i=34+L*2+1 then _ else if i=34+L*2 then _ else _)=_;by_cases h1:i=34+L*2+1
 ·subst h1;rw[if_pos rfl];unfold yH;rw[if_neg (by omega),if_neg (by omega),if_pos (by omega),show(34+L*2+1 - 34) / 2=L by omega,show(34+L*2+1 - 34) % 2=1 by omega,if_pos (by omega),if_neg (by omega)]
 rw[if_neg h1];by_cases h2:i=34+L*2
 ·subst h2;rw[if_pos rfl];unfold yH;rw[if_neg (by omega),if_neg (by omega),if_pos (by omega),show(34+L*2 - 34) / 2=L by omega,show(34+L*2 - 34) % 2=0 by omega,if_pos (by omega),if_pos rfl]
 rw[if_neg h2];unfold yH;by_cases h3:i<2
 ·rw[if_pos h3,if_pos h3]
 by_cases h4:i<34
 ·rw[if_neg h3,if_neg h3,if_pos h4,if_pos h4]
 rw[if_neg h3,if_neg h3,if_neg h4,if_neg h4];by_cases h5:i<40
 ·rw[if_pos h5,if_pos h5];by_cases h6:(i - 34) / 2<L
  ·rw[if_pos h6,if_pos (show(i - 34) / 2<L+1 by omega)]
  ·rw[if_neg h6,if_neg (by omega)]
 ·rw[if_neg h5,if_neg h5]
theorem zPM{p:zJ}{xs xb:Int}{n L M:Nat}{o:Value}{w:World}{B:Nat}(hL:L<2)(h:yQ w B (yH p xs xb n L M o))(hN:¬Nil (qq p xs xb n L) (yR p xs xb n L)) :
  yQ (w.setCells B (2+L*16) (qE (p.s (qq p xs xb n L).toNat)).toList) B (yH p xs xb n (L+1) M o):=by
 have aA:(qE (p.s (qq p xs xb n L).toNat)).toList.length=16:=by simp[qE,qB]
 refine(h.puts (2+L*16) _ (by omega)).congr fun i hi=>?_
 show(if 2+L*16<=i/\i<2+L*16+_ then _ else _)=_;rw[aA];by_cases h1:2+L*16<=i/\i<2+L*16+16
 ·rw[if_pos h1];have hj:i - (2+L*16)<16:=(by omega);have e:(qE (p.s (qq p xs xb n L).toNat)).toList.getD (i - (2+L*16)) undef = .int .i64 (zk (p.s (qq p xs xb n L).toNat) (i - (2+L*16))):=by
   rw[List.getD_eq_getElem?_getD,Array.getElem?_toList];have:=yP (zk (p.s (qq p xs xb n L).toNat)) hj;rw[show qE (p.s (qq p xs xb n L).toNat)=zp (zk (p.s (qq p xs xb n L).toNat))from rfl,this];rfl
  rw[e];unfold yH zB9;rw[if_neg (by omega),if_pos (by omega),show(i - 2) / 16=L by omega,if_pos (by omega),if_neg hN,show(i - 2) % 16=i - (2+L*16)by omega]
 ·rw[if_neg h1];unfold yH;by_cases h3:i<2
  ·rw[if_pos h3,if_pos h3]
  rw[if_neg h3,if_neg h3];by_cases h4:i<34
  ·rw[if_pos h4,if_pos h4];by_cases h6:(i - 2) / 16<L
   ·rw[if_pos h6,if_pos (by omega)]
   ·rw[if_neg h6,if_neg (by omega)]
  ·rw[if_neg h4,if_neg h4]
theorem zNI{p:zJ}{xs xb:Int}{n L:Nat}{o:Value}{w:World}{B:Nat}(hL:L<3)(h:yQ w B (yH p xs xb n L (L+1) o))(hN:L<2->Nil (qq p xs xb n L) (yR p xs xb n L)):yQ w B (yH p xs xb n 2 3 o):=by
 refine h.congr fun i hi=>?_
 have hz:∀K,L<=K->K<3->L<2->Nil (qq p xs xb n K) (yR p xs xb n K):=fun K h1 h2 h3=>by
  have n0:=hN h3;by_cases e:K=L
  ·subst e;exact n0
  have n1:=zEc n0 h3;by_cases e1:K=L+1
  ·subst e1;exact n1
  have n2:=zEc n1 (by omega);rw[show K=L+1+1 by omega];exact n2
 unfold yH;by_cases h3:i<2
 ·rw[if_pos h3,if_pos h3]
 rw[if_neg h3,if_neg h3];by_cases h4:i<34
 ·rw[if_pos h4,if_pos h4];by_cases h6:(i - 2) / 16<L
  ·rw[if_pos h6,if_pos (by omega)]
  ·rw[if_neg h6,if_pos (by omega)];unfold zB9;rw[if_pos (hz _ (by omega) (by omega) (by omega))]
 ·rw[if_neg h4,if_neg h4];by_cases h5:i<40
  ·rw[if_pos h5,if_pos h5];by_cases h6:(i - 34) / 2<L+1
   ·rw[if_pos h6,if_pos (show(i - 34) / 2<3 by omega)]
   ·rw[if_neg h6,if_pos (show(i - 34) / 2<3 by omega)];have:=hz ((i - 34) / 2) (by omega) (by omega) (by omega);split
    ·rw[this.1]
    ·rw[this.2]
  ·rw[if_neg h5,if_neg h5]
theorem zQN{p:zJ}{xs xb:Int}{n K M:Nat}{o:Value}{w:World}{B:Nat}(o':Value)(h:yQ w B (yH p xs xb n K M o)):yQ (w.setCell ⟨B,40,none⟩ o') B (yH p xs xb n K M o'):=by
 refine(h.put _ _).congr fun i hi=>?_
 show(if i=40 then _ else _)=_;by_cases e:i=40
 ·subst e;rfl
 ·rw[if_neg e];unfold yH;by_cases h3:i<2
  ·rw[if_pos h3,if_pos h3]
  rw[if_neg h3,if_neg h3];by_cases h4:i<34
  ·rw[if_pos h4,if_pos h4]
  ·rw[if_neg h4,if_neg h4,if_pos (show i<40 by omega),if_pos (show i<40 by omega)]
def qe(p:zJ)(xs xb:Int)(n k:Nat):List (Int×Int):=kidsUp (fun i=>qq p xs xb n (2 - i)) (fun i=>yR p xs xb n (2 - i)) k
theorem zOX{fA:Array Oper}{o:Oper}{a:Act}{w:World}{K:Act->World->Prop}{Q:Exit->Act->World->Prop}{E:Prop}(jA:o.guard=none)(s x:Operand)
  (ho:o.op = .call {callee:=.builtin .append,args:=#[s,x],argTypes:=#[62,62]}) (base dA:Nat) (v:Value) (l:List (Int×Int)) (hs:a.eval s=v) (aA:zw w base v l)
  (ao:Option Addr) (m c:Nat) (l2:List (Int×Int)) (hx:a.eval x = .slice ao m c) (hm:m=l2.length) (h2:zw w dA (.slice ao m c) l2) (lA:l.length+l2.length<=1000) (bA:base<=w.heap.size)
  (h:∀v' w',zw w' base v' (l ++ l2)->w.grownBy w' v.ownBlock->K (a.put o.dst v') w'):if Region.wanted o (yielded fA a.tmps)=true then Oper.wp Tryz.prog o a w K Q else E:=by
 have hw:Region.wanted o (yielded fA a.tmps)=true:=by simp[Region.wanted,jA]
 rw[if_pos hw];obtain⟨i0,eA,nA,kA,iA⟩:∃i,Tryz.prog.info? 61=some i/\i.zero=some (.agg #[.int .i64 0,.int .i64 0])/\i.size=2/\i.bytes=16:=by
  obtain⟨i0,eA,gA⟩:=Option.map_eq_some_iff.1 zAz;simp only[Prod.mk.injEq]at gA;exact⟨i0,eA,gA⟩
 have ht:Tryz.prog.underlying 62=some (.slice 61):=by kernel_rfl
 by_cases h0:0<l2.length
 ·obtain⟨b,oA,e,_,_,_,cA⟩:=qf h2 h0;simp only[Value.slice.injEq]at e;obtain⟨rfl,_,_⟩:=e;obtain⟨v',w',hr,r1,r2,_⟩:=run_append_own (P:=Tryz.prog) w base 62 o.type 61 i0 (.agg #[.int .i64 0,.int .i64 0]) 2 16 ht eA nA kA iA rfl (by decide) v l.length (pcl l) aA ⟨b,0,none⟩ m c (pcl l2) (by rw[zA4,hm]) (fun j u hj=>by rw[add_lit,Nat.zero_add];exact(cA j u hj).1) (zFr l2) (by rw[hm];unfold maxLen;omega) (by rw[hm];omega) bA;unfold Oper.wp;simp[execOp,ho,resolve,invoke,builtin,hs,hx,hr,Result.andThen];refine h v' w' ?_ r2;unfold zw;rw[zBC,List.length_append,<-hm];exact r1
 ·have e0:l2 = []:=List.eq_nil_of_length_eq_zero (by omega);subst e0;have mA:m=0:=hm;subst mA;have hr:=zA5 (P:=Tryz.prog) (w:=w) base 62 o.type 61 i0 2 c ao ht eA v l.length (pcl l) aA;unfold Oper.wp;simp[execOp,ho,resolve,invoke,builtin,hs,hx,hr,Result.andThen];exact h v w (by rw[List.append_nil];exact aA) ⟨rfl,rfl,rfl,Nat.le_refl _,fun _ _ _=>rfl⟩
theorem zDK{v:Value}{xs xb:Int}{n z B X L:Nat}(a:Act)(h:a = {tmps:=#[v,.agg #[.int .i64 xs,.int .i64 xb],.int .i64 (n:Int),a.tmps.getD 3 undef,.pointer (some ⟨z,0,none⟩),a.tmps.getD 5 undef,.pointer (some ⟨z+1,0,none⟩),.pointer (some ⟨B,0,none⟩),.pointer (some ⟨X,0,none⟩),.int .i64 (L:Int),a.tmps.getD 10 undef,a.tmps.getD 11 undef,a.tmps.getD 12 undef,a.tmps.getD 13 undef,a.tmps.getD 14 undef,a.tmps.getD 15 undef,a.tmps.getD 16 undef,a.tmps.getD 17 undef,a.tmps.getD 18 undef,a.tmps.getD 19 undef,a.tmps.getD 20 undef,a.tmps.getD 21 undef,a.tmps.getD 22 undef,a.tmps.getD 23 undef,a.tmps.getD 24 undef,a.tmps.getD 25 undef,a.tmps.getD 26 undef,a.tmps.getD 27 undef,a.tmps.getD 28 undef,a.tmps.getD 29 undef,a.tmps.getD 30 undef,a.tmps.getD 31 undef,a.tmps.getD 32 undef,a.tmps.getD 33 undef,a.tmps.getD 34 undef,a.tmps.getD 35 undef,a.tmps.getD 36 undef,a.tmps.getD 37 undef,a.tmps.getD 38 undef,a.tmps.getD 39 undef,a.tmps.getD 40 undef,a.tmps.getD 41 undef,a.tmps.getD 42 undef,a.tmps.getD 43 undef,a.tmps.getD 44 undef,a.tmps.getD 45 undef,a.tmps.getD 46 undef,a.tmps.getD 47 undef,a.tmps.getD 48 undef,a.tmps.getD 49 undef,a.tmps.getD 50 undef,a.tmps.getD 51 undef,a.tmps.getD 52 undef,a.tmps.getD 53 undef,a.tmps.getD 54 undef,a.tmps.getD 55 undef,a.tmps.getD 56 undef,a.tmps.getD 57 undef,a.tmps.getD 58 undef,a.tmps.getD 59 undef,a.tmps.getD 60 undef,a.tmps.getD 61 undef,a.tmps.getD 62 undef,a.tmps.getD 63 undef,a.tmps.getD 64 undef,a.tmps.getD 65 undef,a.tmps.getD 66 undef,a.tmps.getD 67 undef],defers:=[]}):∃j:Nat->Value,a = {tmps:=#[v,.agg #[.int .i64 xs,.int .i64 xb],.int .i64 (n:Int),j 3,.pointer (some ⟨z,0,none⟩),j 5,.pointer (some ⟨z+1,0,none⟩),.pointer (some ⟨B,0,none⟩),.pointer (some ⟨X,0,none⟩),.int .i64 (L:Int),j 10,j 11,j 12,j 13,j 14,j 15,j 16,j 17,j 18,j 19,j 20,j 21,j 22,j 23,j 24,j 25,j 26,j 27,j 28,j 29,j 30,j 31,j 32,j 33,j 34,j 35,j 36,j 37,j 38,j 39,j 40,j 41,j 42,j 43,j 44,j 45,j 46,j 47,j 48,j 49,j 50,j 51,j 52,j 53,j 54,j 55,j 56,j 57,j 58,j 59,j 60,j 61,j 62,j 63,j 64,j 65,j 66,j 67],defers:=[]}:=⟨fun i=>a.tmps.getD i undef,h⟩
def zRG(p:zJ)(v:Value)(xs xb:Int)(n:Nat)(w0:World)(z:Nat)(k l:Nat)(a:Act)(w:World):Prop:=
  ∃B X L:Nat,(∃j:Nat->Value,a = {tmps:=#[v,.agg #[.int .i64 xs,.int .i64 xb],.int .i64 (n:Int),j 3,.pointer (some ⟨z,0,none⟩),j 5,.pointer (some ⟨z+1,0,none⟩),.pointer (some ⟨B,0,none⟩),.pointer (some ⟨X,0,none⟩),.int .i64 (L:Int),j 10,j 11,j 12,j 13,j 14,j 15,j 16,j 17,j 18,j 19,j 20,j 21,j 22,j 23,j 24,j 25,j 26,j 27,j 28,j 29,j 30,j 31,j 32,j 33,j 34,j 35,j 36,j 37,j 38,j 39,j 40,j 41,j 42,j 43,j 44,j 45,j 46,j 47,j 48,j 49,j 50,j 51,j 52,j 53,j 54,j 55,j 56,j 57,j 58,j 59,j 60,j 61,j 62,j 63,j 64,j 65,j 66,j 67],defers:=[]})/\L<3/\z+1<B/\B<X/\X<w.heap.size/\Below z w0 w/\w.heap[z+1]?=some (.cells zNt 159 (0,0))/\
    ((l=0/\7<=k+L/\yQ w B (yH p xs xb n L L (.slice none 0 0))/\zc w X (.int .i64 (qq p xs xb n L)) (.int .i64 (yR p xs xb n L)))\/
     (l=1/\L<k/\∃o,yQ w B (yH p xs xb n 2 3 o)/\zw w (X+1) o (qe p xs xb n (2 - L))))
theorem zDs(B:Nat):∀(vs:List Value) (o:Nat) (w:World),zF (fun k=>k=B) w (w.setCells B o vs)
  | [],_,w=>zF.refl _ w
  | v :: vs,o,w=>((zF.refl (fun k=>k=B) w).setCell (p:=⟨B,o,none⟩) rfl v).trans (zDs B vs (o+1) _)
theorem zHX(p:zJ)(xs xb:Int)(n K M:Nat)(o:Value){L:Nat}(hL:L<2):yH p xs xb n K M o L = .int .i64 (plc n L:Nat):=by
  unfold yH;rw[if_pos hL]
theorem zLF(p:zJ)(xs xb:Int)(n M:Nat)(o:Value){L j:Nat}(hL:L<2)(hj:j<16):yH p xs xb n (L+1) M o (2+L*16+j) = .int .i64 (zB9 p xs xb n L j):=by
  unfold yH;rw[if_neg (by omega),if_pos (by omega),show(2+L*16+j - 2) / 16=L by omega,show(2+L*16+j - 2) % 16=j by omega,if_pos (by omega)]
theorem zMG(p:zJ)(xs xb:Int)(n K:Nat)(o:Value){L:Nat}(hL:L<3):yH p xs xb n K 3 o (34+L*2) = .int .i64 (qq p xs xb n L)/\yH p xs xb n K 3 o (34+L*2+1) = .int .i64 (yR p xs xb n L):=by
  refine⟨?_,?_⟩
  · unfold yH
    rw[if_neg (by omega),if_neg (by omega),if_pos (by omega),show(34+L*2 - 34) / 2=L by omega,show(34+L*2 - 34) % 2=0 by omega,if_pos (by omega),if_pos rfl]
  · unfold yH
    rw[if_neg (by omega),if_neg (by omega),if_pos (by omega),show(34+L*2+1 - 34) / 2=L by omega,show(34+L*2+1 - 34) % 2=1 by omega,if_pos (by omega),if_neg (by omega)]
theorem zOx(p:zJ)(xs xb:Int)(n K M:Nat)(o:Value):yH p xs xb n K M o 40=o:=rfl
theorem zOt{p:zJ}{xs xb:Int}{n L:Nat}(hN:L<2->Nil (qq p xs xb n L) (yR p xs xb n L))(hL:L<3):qe p xs xb n (2 - L) = []:=by
  unfold qe;rcases L with _ | _ | L
  · have h0:=hN (by omega)
    have h1:=zEc h0 (by omega);have h2:=zEc h1 (by omega);show([] ++ one (qq p xs xb n 2) (yR p xs xb n 2)) ++ one (qq p xs xb n 1) (yR p xs xb n 1) = [];unfold one;rw[if_pos h2,if_pos h1];rfl
  · have h0:=hN (by omega)
    have h1:=zEc h0 (by omega);show [] ++ one (qq p xs xb n 2) (yR p xs xb n 2) = [];unfold one;rw[if_pos h1];rfl
  · obtain rfl:L=0:=by omega
    rfl
theorem zLf(p:zJ)(xs xb:Int)(n:Nat){L:Nat}(hL:L<3):qe p xs xb n (2 - L+1)=qe p xs xb n (2 - L) ++ one (qq p xs xb n L) (yR p xs xb n L):=by
  show qe p xs xb n (2 - L) ++ one (qq p xs xb n (2 - (2 - L))) (yR p xs xb n (2 - (2 - L)))=_;rw[show 2 - (2 - L)=L by omega]
theorem zMV(p:zJ)(xs xb:Int)(n k:Nat):(qe p xs xb n k).length<=k:=zAg _ _ k
theorem zIN(p:zJ)(xs xb:Int)(n K M:Nat){o:Value}(ho:o.oneCell'=true):(zAS (yH p xs xb n K M o)).all (·.oneCell')=true:=by
  unfold zAS;rw[Array.all_eq_true_iff_forall_mem];intro v hv;simp at hv;obtain⟨i,_,rfl⟩:=hv;unfold yH;split
  · rfl
  split
  · rfl
  split
  · rfl
  · exact ho
theorem zw.one{w:World}{base:Nat}{v:Value}{l:List (Int×Int)}(h:zw w base v l):v.oneCell'=true:=by
  obtain⟨a,c,rfl,_⟩:=zW h;rfl
theorem zw.setRow{w:World}{base g:Nat}{v:Value}{l:List (Int×Int)}(h:zw w base v l)(hb:g<base)(cs:Array Value):zw (w.setRow g cs) base v l:=by
  have t:=zF.setRow w g cs;exact h.zRR (row:=some g) ⟨t.os,t.tape,t.output,t.size,fun k hk aA=>t.block k hk (fun e=>aA (by rw[e]))⟩ (fun q hq=>by
    have:=(h.lt hq).1;simp only[ne_eq,Option.some.injEq];omega)
theorem zLp(f:Nat->Value):(Tryz.prog.info? 159).map (·.size)=some ((List.range 41).map f).length:=by
  rw[zKr];simp
end Go.Proofs.YtmgeglgboadfiaaGreatDoor
