/- What impl.withSlot leaves. -/
import Derived.Test.YtmgeglgboadfiaaGreatDoorT14
import Derived.Scope
import Derived.WalkMore
import Derived.Deep.MidRow
set_option linter.unusedVariables false
set_option maxRecDepth 20000
set_option maxHeartbeats 4000000
namespace Go.Proofs.YtmgeglgboadfiaaGreatDoor
open Go.RowKit
theorem zU.all{w:World}{lo hi:Nat}{v:Value}{n:Nat}{f g:Nat->Int}(h:zU w lo hi v n f g):zU w 0 w.heap.size v n f g:=by
  obtain⟨h0,a,aA,hv,bA,hc⟩:=h;refine⟨h0,a,aA,hv,bA,fun hn=>?_⟩;obtain⟨b,off,ha,g1,g2,g3⟩:=hc hn;exact⟨b,off,ha,Nat.zero_le _,zD (g3 0 hn).1,g3⟩
theorem qI.all{w:World}{lo hi:Nat}{v0 v1 v2:Value}{s:zL}(h:qI w lo hi v0 v1 v2 s):qI w 0 w.heap.size v0 v1 v2 s:=⟨h.1,h.2.1.all,h.2.2⟩
theorem qY.all{w:World}{lo hi:Nat}{v:Value}{n:Nat}{f:Nat->Int}(h:qY w lo hi v n f):qY w 0 w.heap.size v n f:=by
  obtain⟨h0,a,aA,hv,bA,hc⟩:=h;refine⟨h0,a,aA,hv,bA,fun hn=>?_⟩;obtain⟨b,off,ha,g1,g2,g3⟩:=hc hn;exact⟨b,off,ha,Nat.zero_le _,zD (g3 0 hn),g3⟩
theorem zJg{f g:Nat->zL}{kv aA:Nat->Value}{k:Nat}(h:∀i,i<k->f i=g i/\kv i=aA i):sc f kv k=sc g aA k:=by
  induction k with
  | zero=>rfl
  | succ k ih=>
    unfold sc;rw[ih (fun i hi=>h i (by omega)),(h k (by omega)).1,(h k (by omega)).2]
theorem zGD(f:Nat->zL)(kv:Nat->Value)(k m:Nat):sc f kv (k+m)=sc f kv k ++ sc (fun i=>f (k+i)) (fun i=>kv (k+i)) m:=by
  induction m with
  | zero=>simp[sc]
  | succ m ih=>
    show sc f kv (k+m) ++ [.int .i64 (f (k+m)).zRU,kv (k+m),.string (f (k+m)).data]=sc f kv k ++ (sc (fun i=>f (k+i)) (fun i=>kv (k+i)) m ++ [.int .i64 (f (k+m)).zRU,kv (k+m),.string (f (k+m)).data]);rw[ih,List.append_assoc]
theorem zN6{f:Nat->zL}{kv:Nat->Value}{k n j:Nat}{u:Value}(h:k<=n)(hj:(sc f kv k)[j]?=some u):(sc f kv n)[j]?=some u:=by
  obtain⟨m,rfl⟩:=Nat.exists_eq_add_of_le h;have aA:=(List.getElem?_eq_some_iff.1 hj).1;rw[zGD,List.getElem?_append_left aA];exact hj
theorem zNm{f:Nat->zL}{kv:Nat->Value}{k m j:Nat}{u:Value}(hj:(sc (fun i=>f (k+i)) (fun i=>kv (k+i)) m)[j]?=some u):(sc f kv (k+m))[k*3+j]?=some u:=by
  rw[zGD,List.getElem?_append_right (by rw[zDd];omega),zDd];rw[show k*3+j - k*3=j by omega];exact hj
theorem zIO(f:Nat->zL)(i:Nat)(s:zL):∀n,yn (fun j=>if j=i then s else f j) n<=yn f n+(if i<n then zAU s else 0)
  | 0=>Nat.zero_le _
  | n+1=>by
    have ih:=zIO f i s n;show yn (fun j=>if j=i then s else f j) n+zAU (if n=i then s else f n)<=yn f n+zAU (f n)+_;by_cases e:n=i
    · rw[if_pos e,if_pos (by omega)]
      rw[if_neg (by omega)]at ih;omega
    · rw[if_neg e]
      by_cases e2:i<n
      · rw[if_pos e2]at ih
        rw[if_pos (by omega)];omega
      · rw[if_neg e2]at ih
        rw[if_neg (by omega)];omega
theorem zJh(p:zJ)(i:Nat)(s:zL):qD (ql p i s)<=qD p+zAU s:=by
  have h:=zIO p.s i s p.n;have h2:(if i<p.n then zAU s else 0)<=zAU s:=(by split<;>omega);show p.n+yn (fun j=>if j=i then s else p.s j) p.n+p.hn<=p.n+yn p.s p.n+p.hn+zAU s;omega
theorem zQm{p:zJ}{s:zL}{cv:Nat->Value}{kv:Value}{aA:Nat}(h:aA<p.n) :
    sc p.s cv aA ++ [.int .i64 s.zRU,kv,.string s.data] ++ sc (fun i=>p.s (aA+1+i)) (fun i=>cv (aA+1+i)) (p.n - (aA+1))=sc (ql p aA s).s (fun j=>if j=aA then kv else cv j) p.n:=by
  have e:=zGD (ql p aA s).s (fun j=>if j=aA then kv else cv j) (aA+1) (p.n - (aA+1));rw[show aA+1+(p.n - (aA+1))=p.n by omega]at e;rw[e];congr 1
  · show _=sc (ql p aA s).s (fun j=>if j=aA then kv else cv j) aA ++ [.int .i64 ((ql p aA s).s aA).zRU,(if aA=aA then kv else cv aA),.string ((ql p aA s).s aA).data]
    rw[show(ql p aA s).s aA=s from if_pos rfl,if_pos rfl];congr 1;exact zJg fun i hi=>⟨(if_neg (by omega:¬i=aA)).symm,(if_neg (by omega:¬i=aA)).symm⟩
  · exact zJg fun i hi=>⟨(if_neg (by omega:¬aA+1+i=aA)).symm,(if_neg (by omega:¬aA+1+i=aA)).symm⟩
theorem zMf{w:World}{base e n:Nat}{f:Nat->zL}{cv:Nat->Value}{v:Value}(hm:n<=maxLen)(h:w.ownsRow base e 3 v n (sc f cv n))(hs:∀i,i<n->qI w 0 w.heap.size (.int .i64 (f i).zRU) (cv i) (.string (f i).data) (f i)):qA w 0 w.heap.size v n f:=by
  by_cases h0:0<n
  · obtain⟨g,cA,rfl,bA,hb,dA,aA⟩:=qe h h0
    refine⟨hm,_,cA,rfl,bA,fun _=>⟨g,0,rfl,Nat.zero_le _,dA,fun i hi=>⟨_,_,_,?_,?_,?_,hs i hi⟩⟩⟩
    · have:=(aA (i*3+0) _ (zET f cv n i 0 hi (by omega))).1;simpa using this
    · have:=(aA (i*3+1) _ (zET f cv n i 1 hi (by omega))).1;simpa using this
    · have:=(aA (i*3+2) _ (zET f cv n i 2 hi (by omega))).1;simpa using this
  · obtain⟨a,cA,rfl,bA⟩:=zW h
    exact⟨hm,a,cA,rfl,bA,fun h=>absurd h h0⟩
theorem zKP(v0 v1 kv:Value)(lo hi lo' hi' aA:Nat)(p:zJ)(s:zL)(w:World)(h1:zy w lo hi v0 v1 p)(h2:qI w lo' hi' (.int .i64 s.zRU) kv (.string s.data) s)(lB:aA<p.n)(hn:qD p+zAU s<=1048576) :
    Calls Tryz.prog 160 #[.agg #[v0,v1],.int .i64 (aA:Int),.agg #[.int .i64 s.zRU,kv,.string s.data]] w (zHM (ql p aA s) w):=by
  have Hp:=zT h1;have Hs:=zT h2;have Hn:=zT hn;have fC:p.n<=1048576:=(by unfold qD at hn;omega);have jC:p.hn<=1048576:=(by unfold qD at hn;omega);obtain⟨a,c,a',c',rfl,rfl⟩:=h1.form;obtain⟨ka,kc,rfl⟩:=h2.form;have mc:p.n<=c:=(by obtain⟨⟨_,_,_,e,h,_⟩,_⟩:=h1;simp only[Value.slice.injEq,true_and]at e;omega);obtain⟨cv,kB,lA⟩:=h1.1.values;obtain⟨b,off,rfl,rB,tB,cA⟩:=lA (by omega);have jB:=zT kB;have gA:=zT cA;have bB:b<w.heap.size:=by
    have:=cA 0 _ (by have:=zET p.s cv p.n 0 0 (by omega) (by omega);simpa using this);exact zD this
  obtain⟨i1,cB,kA⟩:=Option.map_eq_some_iff.1 zEg;simp only[Prod.mk.injEq]at kA;have jA:=zT (And.intro cB kA);clear h1 h2 hn kB lA cA cB kA rB tB;have gB:=zC w (.cells #[.slice (some ⟨b,off,none⟩) p.n c,.slice a' p.hn c'] 33);have eB:=zA gB (zC _ (.cells #[.int .i64 s.zRU,.slice ka s.kn kc,.string s.data] 127));have pA:=zA eB (zC _ (.cells #[.slice none 0 0,.slice none 0 0] 33));have HB:=zT (((zc.zRL w (.slice (some ⟨b,off,none⟩) p.n c) (.slice a' p.hn c') 33).zRJ (zC _ (.cells #[.int .i64 s.zRU,.slice ka s.kn kc,.string s.data] 127))).zRJ (zC _ (.cells #[.slice none 0 0,.slice none 0 0] 33)));have vA:=(yT.zRL (w.alloc (.cells #[.slice (some ⟨b,off,none⟩) p.n c,.slice a' p.hn c'] 33)) (.int .i64 s.zRU) (.slice ka s.kn kc) (.string s.data) 127).zRJ (zC _ (.cells #[.slice none 0 0,.slice none 0 0] 33));rw[World.size_alloc]at vA;have HS:=zT vA;have aB:=zc.zRL ((w.alloc (.cells #[.slice (some ⟨b,off,none⟩) p.n c,.slice a' p.hn c'] 33)).alloc (.cells #[.int .i64 s.zRU,.slice ka s.kn kc,.string s.data] 127)) (.slice none 0 0) (.slice none 0 0) 33;rw[World.size_alloc,World.size_alloc]at aB;have HR:=zT aB;clear gB eB vA aB;go_enter Tryz.func160,Tryz.ntmps160;go_wp2_with fail;generalize hW:((w.alloc (.cells #[.slice (some ⟨b,off,none⟩) p.n c,.slice a' p.hn c'] 33)).alloc (.cells #[.int .i64 s.zRU,.slice ka s.kn kc,.string s.data] 127)).alloc (.cells #[.slice none 0 0,.slice none 0 0] 33)=W at HB HS HR pA ⊢;have hz:W.heap.size=w.heap.size+3:=(by rw[<-hW,World.size_alloc,World.size_alloc,World.size_alloc]);clear hW;obtain⟨⟨x0,x1⟩,⟨x2,x3⟩⟩:=HB.out;obtain⟨⟨y0,y1⟩,⟨y2,y3⟩,⟨y4,y5⟩⟩:=HS.out;have aC:(aA:Int)<=(c:Int):=(by omega);have n0:W.heap.size≠w.heap.size:=(by omega);have n1:W.heap.size≠w.heap.size+1:=(by omega);go_region_held3 (fun w'=>w'.cell? ⟨w.heap.size,0,none⟩=some (.slice (some ⟨b,off,none⟩) p.n c)/\w'.cell? ⟨w.heap.size+1,0,none⟩=some (.int .i64 s.zRU)/\w'.cell? ⟨w.heap.size+1,1,none⟩=some (.slice ka s.kn kc)/\w'.cell? ⟨w.heap.size+1,2,none⟩=some (.string s.data)) (go_keep)
    (first
      | (refine step_append_grows rfl (.tmp 12) (.tmp 14) 31 rfl 127 i1 (.agg #[.int .i64 0,.slice none 0 0,.string ⟨#[]⟩]) 3 48 (by kernel_rfl) jA.out.1 jA.out.2.1 jA.out.2.2.1 jA.out.2.2.2 rfl (by decide) (some ⟨b,off,none⟩) aA aA (sc p.s cv aA) (by simp[Act.eval]) (fun e=>by cases e) (zDd _ _ _) ?_ ⟨W.heap.size,0,none⟩ 1 1 [.int .i64 s.zRU,.slice ka s.kn kc,.string s.data] (by simp[Act.eval]) rfl ?_ (zQx _ _ _ _ _) (by omega) (by unfold maxLen;omega) (by omega) ?_
         exact fun b1 e j u hj=>by
           simp only[Option.some.injEq]at e;subst e;rw[add_lit];exact((zA pA (zC W _)).drew.cell (p:=⟨b,off+j,none⟩) bB).trans (gA.out j u (zN6 (by omega) hj))
         exact zQR W _ _ _ _;intro v4 w4 eA dA;obtain⟨g4,c4,rfl,_⟩:=eA.form (by omega);have mA:Below W.heap.size W w4:=zA (zC W _) (zK (zCU dA));have iA:=zT (zEF (B:=W.heap.size) eA (by simp));obtain⟨⟨p0,p1⟩,⟨p2,p3⟩⟩:=HB.out.zRJ mA;obtain⟨⟨p4,p5⟩,⟨p6,p7⟩,⟨p8,p9⟩⟩:=HS.out.zRJ mA;clear eA dA))
  have oB:=zA pA mA;have nB:(aA:Int)+1<=(p.n:Int):=(by omega);have mB:=mA.size;clear x0 x1 x2 x3 y0 y1 y2 y3 y4 y5 p4 p5 p6 p7 p8 p9 HS;have pB:Hid (∀j u,(sc (fun i=>p.s (aA+1+i)) (fun i=>cv (aA+1+i)) (p.n - (aA+1)))[j]?=some u->w4.cell? ((⟨b,off+(aA+1)*3,none⟩:Addr).add j)=some u):=fun j u hj=>by
    have e:=zNm (f:=p.s) (kv:=cv) hj;rw[show aA+1+(p.n - (aA+1))=p.n by omega]at e;rw[add_lit,show off+(aA+1)*3+j=off+((aA+1)*3+j)by omega];exact(oB.cell (p:=⟨b,off+((aA+1)*3+j),none⟩) bB).trans (gA.out _ u e)
  have gC:Hid (c=aA+1->∀j u,(sc (fun i=>p.s (aA+1+i)) (fun i=>cv (aA+1+i)) (p.n - (aA+1)))[j]?=some u->w4.cell? ((⟨b,off,none⟩:Addr).add j)=some u):=fun dC j u hj=>by
    rw[show p.n - (aA+1)=0 by omega]at hj;simp[sc]at hj
  have tA:Hid (∀u∈sc (fun i=>p.s (aA+1+i)) (fun i=>cv (aA+1+i)) (p.n - (aA+1)),u.oneCell'=true):=zPY _ _ _ (fun i hi=>by obtain⟨iC,eC,e⟩:=(jB.out (aA+1+i) (by omega)).form;rw[e];rfl);go_wp2_with (first
    | (at_builtin;refine qJ rfl _ _ 31 rfl W.heap.size 127 i1 (.agg #[.int .i64 0,.slice none 0 0,.string ⟨#[]⟩]) 3 48 (by kernel_rfl) jA.out.1 jA.out.2.1 jA.out.2.2.1 jA.out.2.2.2 rfl (by decide) (.slice (some ⟨g4,0,none⟩) (aA+1) c4) (aA+1) _ rfl iA.out _ (p.n - (aA+1)) _ (sc (fun i=>p.s (aA+1+i)) (fun i=>cv (aA+1+i)) (p.n - (aA+1))) rfl (zDd _ _ _) tA.out (by intro hm;exact⟨b,off+(aA+1)*3,(by first | rw[if_neg (by omega)] | rfl | simp),fun j u hj=>by have hq:=pB.out j u hj;rw[add_lit]at hq;exact hq⟩) ?c3 ?c4 ?c5 ?_))
  case c3=>unfold maxLen;omega
  case c4=>omega
  case c5=>omega
  all_goals
    intro v5 w5 bA fA _;have hl:=zQm (s:=s) (cv:=cv) (kv:=.slice ka s.kn kc) lB;simp only[List.append_assoc,List.cons_append,List.nil_append]at hl bA;rw[show aA+1+(p.n - (aA+1))=p.n by omega,hl]at bA;clear hl;obtain⟨g5,c5,rfl,_⟩:=bA.form (by omega);have oA:Below W.heap.size W w5:=mA.grown fA mB (fun k hk=>(iA.out.lt k hk).1);have nA:=zA pA oA;have vB:Hid (zy w5 0 w5.heap.size (.slice (some ⟨g5,0,none⟩) p.n c5) (.slice a' p.hn c') (ql p aA s)):=by
      refine⟨zMf (by show p.n<=maxLen;unfold maxLen;omega) bA (fun i hi=>?_),(Hp.out.2.zRJ nA).all⟩;by_cases e:i=aA
      · subst e
        rw[show(ql p i s).s i=s from if_pos rfl];simp only[if_true];exact(Hs.out.zRJ nA).all
      · rw[show(ql p aA s).s i=p.s i from if_neg e]
        simp only[if_neg e];exact((jB.out i hi).zRJ nA).all
    have cC:=zT (HR.out.zRJ oA);have kC:w.heap.size+3<=w5.heap.size:=(by have:=oA.size;omega);clear bA fA p0 p1 p2 p3;obtain⟨⟨p0,p1⟩,⟨p2,p3⟩⟩:=HB.out.zRJ oA;go_wp2_with fail;refine(zBw _ _ 0 w5.heap.size (ql p aA s) _ vB.out (by have:=zJh p aA s;have:=Hn.out;omega)).mono ?_;rintro e w6 ⟨s0,s1,rfl,rA,sA⟩;obtain⟨a6,c6,a7,c7,rfl,rfl⟩:=rA.form;have fB:=zT (cC.out.zRJ sA);have sB:=zT rA;have bC:=zA nA sA;clear rA sA p0 p1 p2 p3;obtain⟨⟨u0,u1⟩,⟨u2,u3⟩⟩:=fB.out;go_wp2;have dB:=fB.out.put (.slice a6 (ql p aA s).n c6) (.slice a7 (ql p aA s).hn c7);have iB:=zPf (R:=w.heap.size+1+1) sB.out (by omega) (by omega) (Nat.le_refl _) bC;exact bodyPost_ret (v:=.agg #[.slice a6 (ql p aA s).n c6,.slice a7 (ql p aA s).hn c7]) (by simp[results,Tryz.results160,go_sem,dB.1.1,dB.2.1]) rfl ⟨_,_,rfl,iB.1,iB.2⟩
theorem zQM(w:World)(a0 a1 x0 x1 x2:Value)(t1 t2 t3:TypeId) :
  zc (((w.alloc (.cells #[a0,a1] t1)).alloc (.cells #[x0,x1,x2] t2)).alloc (.cells #[.slice none 0 0,.slice none 0 0,.int .i64 0,.int .i64 0,.int .i64 0] t3)) w.heap.size a0 a1/\
  yT (((w.alloc (.cells #[a0,a1] t1)).alloc (.cells #[x0,x1,x2] t2)).alloc (.cells #[.slice none 0 0,.slice none 0 0,.int .i64 0,.int .i64 0,.int .i64 0] t3)) (w.heap.size+1) x0 x1 x2/\
  zFW (((w.alloc (.cells #[a0,a1] t1)).alloc (.cells #[x0,x1,x2] t2)).alloc (.cells #[.slice none 0 0,.slice none 0 0,.int .i64 0,.int .i64 0,.int .i64 0] t3)) (w.heap.size+1+1) (.slice none 0 0) (.slice none 0 0) (.int .i64 0) (.int .i64 0) (.int .i64 0)/\
  Below w.heap.size w (((w.alloc (.cells #[a0,a1] t1)).alloc (.cells #[x0,x1,x2] t2)).alloc (.cells #[.slice none 0 0,.slice none 0 0,.int .i64 0,.int .i64 0,.int .i64 0] t3))/\
  (((w.alloc (.cells #[a0,a1] t1)).alloc (.cells #[x0,x1,x2] t2)).alloc (.cells #[.slice none 0 0,.slice none 0 0,.int .i64 0,.int .i64 0,.int .i64 0] t3)).heap.size=w.heap.size+3:=by
 refine⟨((zc.zRL w a0 a1 t1).zRJ (zC _ _)).zRJ (zC _ _),?_,?_,zA (zA (zC _ _) (zC _ _)) (zC _ _),by simp⟩
 ·have:=(yT.zRL (w.alloc (.cells #[a0,a1] t1)) x0 x1 x2 t2).zRJ (zC _ (.cells #[.slice none 0 0,.slice none 0 0,.int .i64 0,.int .i64 0,.int .i64 0] t3));rw[World.size_alloc]at this;exact this
 ·have:=zFW.zRL ((w.alloc (.cells #[a0,a1] t1)).alloc (.cells #[x0,x1,x2] t2)) (.slice none 0 0) (.slice none 0 0) (.int .i64 0) (.int .i64 0) (.int .i64 0) t3;rw[World.size_alloc,World.size_alloc]at this;exact this
theorem zGR(v0 v1 kv:Value)(lo hi lo' hi':Nat)(p:zJ)(s:zL)(w:World)(h1:zy w lo hi v0 v1 p)(h2:qI w lo' hi' (.int .i64 s.zRU) kv (.string s.data) s)(hn:qD p+zAU s<=1048576) :
  Calls Tryz.prog 100 #[.agg #[v0,v1],.agg #[.int .i64 s.zRU,kv,.string s.data]] w (zM1 (zCt p s) w):=by
 have Hp:=zT h1;have Hs:=zT h2;have Hn:=zT hn;obtain⟨a,c,a',c',rfl,rfl⟩:=h1.form;obtain⟨ka,kc,rfl⟩:=h2.form;have bC:s.kn<=1048576:=by unfold zAU at hn;omega
 have cC:p.n<=1048576:=by unfold qD at hn;omega
 have gB:=zQM w (.slice a p.n c) (.slice a' p.hn c') (.int .i64 s.zRU) (.slice ka s.kn kc) (.string s.data) 33 127 151;clear h1 h2 hn;go_enter Tryz.func100,Tryz.ntmps100;go_wp2_with fail;generalize ((w.alloc (.cells #[.slice a p.n c,.slice a' p.hn c'] 33)).alloc (.cells #[.int .i64 s.zRU,.slice ka s.kn kc,.string s.data] 127)).alloc (.cells #[.slice none 0 0,.slice none 0 0,.int .i64 0,.int .i64 0,.int .i64 0] 151)=W at gB ⊢;obtain⟨hB,hX,hR,bB,hz⟩:=gB;refine(zAC _ _ lo hi p _ (Hp.out.zRJ bB)).mono ?_;rintro e w1 ⟨⟨t,rfl,ht⟩,fA⟩;have mB:=zT (hB.zRJ fA);have cB:=zT (hX.zRJ fA);have pA:=zT (hR.zRJ fA);have rA:=zA bB fA;have oB:w.heap.size+3<=w1.heap.size:=by have:=fA.size;omega
 clear hB hX hR bB fA hz;by_cases kA:zv p
 ·have sA:=zT kA;obtain rfl:t=true:=ht.2 kA;clear ht kA;obtain⟨⟨y0,y1⟩,⟨y2,y3⟩,⟨y4,y5⟩⟩:=cB.out;go_wp2_with fail;refine(zBe _ _ _ lo' hi' s _ (Hs.out.zRJ rA)).mono ?_;rintro e w2 ⟨⟨t,rfl,ht⟩,gA⟩;have eB:=zT (mB.out.zRJ gA);have fB:=zT (cB.out.zRJ gA);have vA:=zT (pA.out.zRJ gA);have nA:=zA rA gA;have tB:w.heap.size+3<=w2.heap.size:=(by have:=gA.size;omega);clear gA rA mB cB pA oB y0 y1 y2 y3 y4 y5;by_cases hF:qF s
  ·have HF:=zT hF;obtain rfl:t=true:=ht.2 hF;clear ht hF;obtain⟨⟨u0,u1⟩,⟨u2,u3⟩,⟨u4,u5⟩,⟨u6,u7⟩,⟨u8,u9⟩⟩:=vA.out;go_wp2;have aA:=vA.out.put (.slice none 0 0) (.slice none 0 0) (.int .i64 0) (.int .i64 0) (.int .i64 1);have bA:=zCk (R:=w.heap.size+1+1) (u2:=.int .i64 0) (u3:=.int .i64 0) (u4:=.int .i64 1) (by omega) nA;rw[zGo (fun h=>h.2.1 HF.out)];exact bodyPost_ret (v:=.agg #[.slice none 0 0,.slice none 0 0,.int .i64 0,.int .i64 0,.int .i64 1]) (by simp[results,Tryz.results100,go_sem,aA.1.1,aA.2.1.1,aA.2.2.1.1,aA.2.2.2.1.1,aA.2.2.2.2.1]) rfl ⟨_,_,rfl,bA.1,bA.2⟩
  ·have HF:=zT hF;obtain rfl:t=false:=zQ ht hF;clear ht hF;obtain⟨⟨x0,x1⟩,⟨x2,x3⟩⟩:=eB.out;obtain⟨⟨y0,y1⟩,⟨y2,y3⟩,⟨y4,y5⟩⟩:=fB.out;go_wp2_with fail;refine(zE3 _ _ _ _ p.n lo hi lo' hi' p.s s _ (Hp.out.1.zRJ nA) (Hs.out.zRJ nA)).mono ?_;rintro e w3 ⟨⟨t,rfl,ht⟩,jA⟩;rw[zIl sA.out HF.out]at ht;have tA:=zT (eB.out.zRJ jA);have aB:=zT (fB.out.zRJ jA);have eA:=zT (vA.out.zRJ jA);have iA:=zA nA jA;have vB:w.heap.size+3<=w3.heap.size:=(by have:=jA.size;omega);clear jA nA eB fB vA tB x0 x1 x2 x3 y0 y1 y2 y3 y4 y5;by_cases hT:zAN p s
   ·have HT:=zT (And.intro sA.out (And.intro HF.out hT));obtain rfl:t=true:=ht.2 hT;clear ht hT;obtain⟨⟨x0,x1⟩,⟨x2,x3⟩⟩:=tA.out;go_wp2_with fail;refine(zIq _ p.n lo hi p.s _ (Hp.out.1.zRJ iA)).mono ?_;rintro e w4 ⟨⟨i,lB,rfl⟩ | ⟨pB,rfl⟩,dA⟩
    ·have kB:=zT (tA.out.zRJ dA);have iB:=zT (aB.out.zRJ dA);have lA:=zT (eA.out.zRJ dA);have mA:=zA iA dA;have aC:w.heap.size+3<=w4.heap.size:=(by have:=dA.size;omega);have Hi:=zT lB;have dC:¬(i:Int)<0:=(by omega);clear dA tA aB eA iA x0 x1 x2 x3 vB lB;obtain⟨⟨x0,x1⟩,⟨x2,x3⟩⟩:=kB.out;obtain⟨⟨y0,y1⟩,⟨y2,y3⟩,⟨y4,y5⟩⟩:=iB.out;obtain⟨⟨u0,u1⟩,⟨u2,u3⟩,⟨u4,u5⟩,⟨u6,u7⟩,⟨u8,u9⟩⟩:=lA.out;have n0:w.heap.size+1+1≠w.heap.size:=(by omega);have n1:w.heap.size+1+1≠w.heap.size+1:=(by omega);go_wp2_with fail;go_region_held3 (fun w'=>w'.cell? ⟨w.heap.size,0,none⟩=some (.slice a p.n c)/\w'.cell? ⟨w.heap.size,1,none⟩=some (.slice a' p.hn c')/\w'.cell? ⟨w.heap.size+1,0,none⟩=some (.int .i64 s.zRU)/\w'.cell? ⟨w.heap.size+1,1,none⟩=some (.slice ka s.kn kc)/\w'.cell? ⟨w.heap.size+1,2,none⟩=some (.string s.data)) (go_keep)
      (first
       | (go_at_call 160;refine(zKP _ _ _ lo hi lo' hi' i p s _ ?_ ?_ Hi.out.1 Hn.out).mono ?_;(exact Hp.out.zRJ mA.drew);(exact Hs.out.zRJ mA.drew);rintro e w5 ⟨s0,s1,rfl,dB,jB⟩;obtain⟨a5,c5,a6,c6,rfl,rfl⟩:=dB.form;have cA:=zK jB;obtain⟨⟨p0,p1⟩,⟨p2,p3⟩⟩:=kB.out.zRJ cA;obtain⟨⟨p4,p5⟩,⟨p6,p7⟩,⟨p8,p9⟩⟩:=iB.out.zRJ cA;obtain⟨⟨r0,r1⟩,⟨r2,r3⟩,⟨r4,r5⟩,⟨r6,r7⟩,⟨r8,r9⟩⟩:=lA.out.zRJ cA))
     have sB:Hid (zt w5 w4.heap.size w5.heap.size (.slice a5 (ql p i s).n c5) (.slice a6 (ql p i s).hn c6) (ql p i s)):=dB;have rB:=zT (lA.out.zRJ cA);have nB:=zA mA cA;clear dB jB cA;go_wp2;have oA:=rB.out.put (.slice a5 (ql p i s).n c5) (.slice a6 (ql p i s).hn c6) (.int .i64 (i:Int)) (.int .i64 s.zRU) (.int .i64 0);have bA:=zHP (R:=w.heap.size+1+1) (u2:=.int .i64 (i:Int)) (u3:=.int .i64 s.zRU) (u4:=.int .i64 0) sB.out (by omega) (by omega) (Nat.le_refl _) nB;rw[zKb HT.out Hi.out];exact bodyPost_ret (v:=.agg #[.slice a5 (ql p i s).n c5,.slice a6 (ql p i s).hn c6,.int .i64 (i:Int),.int .i64 s.zRU,.int .i64 0]) (by simp[results,Tryz.results100,go_sem,oA.1.1,oA.2.1.1,oA.2.2.1.1,oA.2.2.2.1.1,oA.2.2.2.2.1]) rfl ⟨_,_,rfl,bA.1,bA.2⟩
    ·have lA:=zT (eA.out.zRJ dA);have mA:=zA iA dA;clear dA tA aB eA iA x0 x1 x2 x3;obtain⟨⟨u0,u1⟩,⟨u2,u3⟩,⟨u4,u5⟩,⟨u6,u7⟩,⟨u8,u9⟩⟩:=lA.out;go_wp2;have aA:=lA.out.put (.slice none 0 0) (.slice none 0 0) (.int .i64 0) (.int .i64 0) (.int .i64 6);have bA:=zCk (R:=w.heap.size+1+1) (u2:=.int .i64 0) (u3:=.int .i64 0) (u4:=.int .i64 6) (by omega) mA;rw[zGc HT.out pB];exact bodyPost_ret (v:=.agg #[.slice none 0 0,.slice none 0 0,.int .i64 0,.int .i64 0,.int .i64 6]) (by simp[results,Tryz.results100,go_sem,aA.1.1,aA.2.1.1,aA.2.2.1.1,aA.2.2.2.1.1,aA.2.2.2.2.1]) rfl ⟨_,_,rfl,bA.1,bA.2⟩
   ·have HT:=zT hT;obtain rfl:t=false:=zQ ht hT;clear ht hT;obtain⟨⟨u0,u1⟩,⟨u2,u3⟩,⟨u4,u5⟩,⟨u6,u7⟩,⟨u8,u9⟩⟩:=eA.out;go_wp2;have aA:=eA.out.put (.slice none 0 0) (.slice none 0 0) (.int .i64 0) (.int .i64 0) (.int .i64 1);have bA:=zCk (R:=w.heap.size+1+1) (u2:=.int .i64 0) (u3:=.int .i64 0) (u4:=.int .i64 1) (by omega) iA;rw[zGo (fun h=>HT.out h.2.2)];exact bodyPost_ret (v:=.agg #[.slice none 0 0,.slice none 0 0,.int .i64 0,.int .i64 0,.int .i64 1]) (by simp[results,Tryz.results100,go_sem,aA.1.1,aA.2.1.1,aA.2.2.1.1,aA.2.2.2.1.1,aA.2.2.2.2.1]) rfl ⟨_,_,rfl,bA.1,bA.2⟩
 ·have sA:=zT kA;obtain rfl:t=false:=zQ ht kA;clear ht kA;obtain⟨⟨u0,u1⟩,⟨u2,u3⟩,⟨u4,u5⟩,⟨u6,u7⟩,⟨u8,u9⟩⟩:=pA.out;go_wp2;have aA:=pA.out.put (.slice none 0 0) (.slice none 0 0) (.int .i64 0) (.int .i64 0) (.int .i64 1);have bA:=zCk (R:=w.heap.size+1+1) (u2:=.int .i64 0) (u3:=.int .i64 0) (u4:=.int .i64 1) (by omega) rA;rw[zGo (fun h=>sA.out h.1)];exact bodyPost_ret (v:=.agg #[.slice none 0 0,.slice none 0 0,.int .i64 0,.int .i64 0,.int .i64 1]) (by simp[results,Tryz.results100,go_sem,aA.1.1,aA.2.1.1,aA.2.2.1.1,aA.2.2.2.1.1,aA.2.2.2.2.1]) rfl ⟨_,_,rfl,bA.1,bA.2⟩
def mix(f g:Nat->Int)(j:Nat):Int:=if j % 2=0 then f (j / 2)else g (j / 2)
theorem zGT(f g:Nat->Int)(i:Nat):mix f g (i*2)=f i/\mix f g (i*2+1)=g i:=by
 unfold mix;rw[if_pos (by omega),if_neg (by omega),show i*2 / 2=i by omega,show(i*2+1) / 2=i by omega];exact⟨rfl,rfl⟩
def yI(f g:Nat->Int):Prop:=∀i,i<8->Nil (f i) (g i)
theorem zLd(f g:Nat->Int):zGV (mix f g) (fun _=>0)=true↔yI f g:=by
 rw[zIH];constructor
 ·intro h i hi;have:=h i hi;rw[(zGT f g i).1,(zGT f g i).2]at this;exact this
 ·intro h i hi;rw[(zGT f g i).1,(zGT f g i).2];exact h i hi
def qW(f g:Nat->Int)(b:Int):zL:={zRU:=b,kn:=8,ks:=f,kb:=g,data:=⟨#[]⟩}
open Classical in
noncomputable def zEy(p:zJ)(f g:Nat->Int)(b:Int):zDk:=if yI f g then⟨p,0,0,0⟩else zCt p (qW f g b)
theorem zQC(w:World)(a0 a1:Value)(cs:Array Value)(t1 t2 t3:TypeId) :
  zc (((w.alloc (.cells #[a0,a1] t1)).alloc (.cells cs t2)).alloc (.cells #[.slice none 0 0,.slice none 0 0,.int .i64 0,.int .i64 0,.int .i64 0] t3)) w.heap.size a0 a1/\
  (((w.alloc (.cells #[a0,a1] t1)).alloc (.cells cs t2)).alloc (.cells #[.slice none 0 0,.slice none 0 0,.int .i64 0,.int .i64 0,.int .i64 0] t3)).heap[w.heap.size+1]?=some (.cells cs t2 (0,0))/\
  zFW (((w.alloc (.cells #[a0,a1] t1)).alloc (.cells cs t2)).alloc (.cells #[.slice none 0 0,.slice none 0 0,.int .i64 0,.int .i64 0,.int .i64 0] t3)) (w.heap.size+1+1) (.slice none 0 0) (.slice none 0 0) (.int .i64 0) (.int .i64 0) (.int .i64 0)/\
  Below w.heap.size w (((w.alloc (.cells #[a0,a1] t1)).alloc (.cells cs t2)).alloc (.cells #[.slice none 0 0,.slice none 0 0,.int .i64 0,.int .i64 0,.int .i64 0] t3))/\
  (((w.alloc (.cells #[a0,a1] t1)).alloc (.cells cs t2)).alloc (.cells #[.slice none 0 0,.slice none 0 0,.int .i64 0,.int .i64 0,.int .i64 0] t3)).heap.size=w.heap.size+3:=by
 refine⟨((zc.zRL w a0 a1 t1).zRJ (zC _ _)).zRJ (zC _ _),?_,?_,zA (zA (zC _ _) (zC _ _)) (zC _ _),by simp⟩
 ·exact(zGv w (.cells #[a0,a1] t1) (.cells cs t2) _).1
 ·have:=zFW.zRL ((w.alloc (.cells #[a0,a1] t1)).alloc (.cells cs t2)) (.slice none 0 0) (.slice none 0 0) (.int .i64 0) (.int .i64 0) (.int .i64 0) t3;rw[World.size_alloc,World.size_alloc]at this;exact this
theorem zJ0(v0 v1:Value)(lo hi:Nat)(p:zJ)(f g:Nat->Int)(b:Int)(w:World)(h1:zy w lo hi v0 v1 p)(hn:qD p+8<=1048576) :
  Calls Tryz.prog 161 #[.agg #[v0,v1],.agg (zp (mix f g)),.int .i64 b] w (zM1 (zEy p f g b) w):=by
 have Hp:=zE h1;obtain⟨a,c,a',c',rfl,rfl⟩:=h1.form;have Hn:=zE hn;clear h1 hn;have pA:=zQC w (.slice a p.n c) (.slice a' p.hn c') (zp (mix f g)) 33 155 151;have fA:Hid ((Tryz.prog.info? 155).map (·.size)=some (zp (mix f g)).size):=by
  show _=_;rw[qB];exact zBp
 have dB:∀w,(binOp .eql 155 (.agg (zp (mix f g))) (.agg #[Value.int .i64 0,Value.int .i64 0,Value.int .i64 0,Value.int .i64 0,Value.int .i64 0,Value.int .i64 0,Value.int .i64 0,Value.int .i64 0,Value.int .i64 0,Value.int .i64 0,Value.int .i64 0,Value.int .i64 0,Value.int .i64 0,Value.int .i64 0,Value.int .i64 0,Value.int .i64 0])).run Tryz.prog w = .ok (.bool (zGV (mix f g) (fun _=>0))) w:=fun w=>zKZ (mix f g) (fun _=>0) w
 go_enter Tryz.func161,Tryz.ntmps161;go_upto_region 1 with fail;generalize ((w.alloc (.cells #[.slice a p.n c,.slice a' p.hn c'] 33)).alloc (.cells (zp (mix f g)) 155)).alloc (.cells #[.slice none 0 0,.slice none 0 0,.int .i64 0,.int .i64 0,.int .i64 0] 151)=W at pA ⊢;obtain⟨hB,hA,hR,dA,hz⟩:=pA;have HA:=zE hA;have HB:=zE hB;have HR:=zE hR;clear hA hR;obtain⟨⟨x0,x1⟩,⟨x2,x3⟩⟩:=HB.out;by_cases hN:yI f g
 ·have HN:=zE hN;have fB:=(zLd f g).2 hN;clear hN;go_wp2_with (first
   | (refine wpList_load_row rfl 155 (.tmp 4) rfl (w.heap.size+1) rfl 155 (zp (mix f g)) (0,0) _ HA.out zHH rfl fA.out ?_)
   | fail)
  refine(zBw _ _ lo hi p W (Hp.out.zRJ dA) (by have:=Hn.out;omega)).mono ?_;rintro e w1 ⟨s0,s1,rfl,kA,jA⟩;obtain⟨a1,c1,a2,c2,rfl,rfl⟩:=kA.form;have gB:=zE kA;have nA:=zE (HR.out.zRJ jA);have eB:=zA dA jA;have lB:=jA.size;clear kA jA dA x0 x1 x2 x3 hB;obtain⟨⟨u0,u1⟩,⟨u2,u3⟩,⟨u4,u5⟩,⟨u6,u7⟩,⟨u8,u9⟩⟩:=nA.out;go_wp2;have aA:=nA.out.put (.slice a1 p.n c1) (.slice a2 p.hn c2) (.int .i64 0) (.int .i64 0) (.int .i64 0);have gA:=zHP (R:=w.heap.size+1+1) (u2:=.int .i64 0) (u3:=.int .i64 0) (u4:=.int .i64 0) gB.out (by omega) (by omega) (Nat.le_refl _) eB;rw[show zEy p f g b=⟨p,0,0,0⟩from if_pos HN.out];exact bodyPost_ret (v:=.agg #[.slice a1 p.n c1,.slice a2 p.hn c2,.int .i64 0,.int .i64 0,.int .i64 0]) (by simp[results,Tryz.results161,go_sem,aA.1.1,aA.2.1.1,aA.2.2.1.1,aA.2.2.2.1.1,aA.2.2.2.2.1]) rfl ⟨_,_,rfl,gA.1,gA.2⟩
 ·have HN:=zE hN;have fB:zGV (mix f g) (fun _=>0)=false:=Bool.eq_false_iff.2 (fun h=>hN ((zLd f g).1 h));clear hN;have mA:=zBC 62 61 (.agg #[.int .i64 0,.int .i64 0]) 2 16 (by kernel_rfl) zKu rfl 8 (by omega) (by omega);have jB:∀w,(Instr.makeSlice 62 (.int .i64 8) (.int .i64 8)).run Tryz.prog w = .ok (.slice (some ⟨w.heap.size,0,none⟩) 8 8) (w.alloc (.cells (zA2 #[.int .i64 0,.int .i64 0] 8) 61)):=mA;clear mA;have oA:=zC W (.cells (zA2 #[.int .i64 0,.int .i64 0] 8) 61);have rA:=zC W (.cells (zp (mix f g)) 61);have iA:=zE rA;have bB:(W.alloc (.cells (zA2 #[.int .i64 0,.int .i64 0] 8) 61)).heap[w.heap.size+1]?=some (.cells (zp (mix f g)) 155 (0,0)):=(oA.block _ (by omega)).trans HA.out;have eA:Hid (∀ty,(Builtin.copy_ #[62,62] ty #[.slice (some ⟨W.heap.size,0,none⟩) 8 8,.slice (some ⟨w.heap.size+1,0,none⟩) 8 8]).run Tryz.prog (W.alloc (.cells (zA2 #[.int .i64 0,.int .i64 0] 8) 61)) = .ok (goInt 8) (W.alloc (.cells (zp (mix f g)) 61))):=by
   intro ty;have tA:(zA2 #[.int .i64 0,.int .i64 0] 8).size=16:=(by kernel_rfl);have hr:=zER (P:=Tryz.prog) (W.alloc (.cells (zA2 #[.int .i64 0,.int .i64 0] 8) 61)) 62 62 ty 61 2 W.heap.size 0 8 8 ⟨w.heap.size+1,0,none⟩ 8 8 (zA2 #[.int .i64 0,.int .i64 0] 8) 61 (zp (mix f g)).toList (by kernel_rfl) zEC (heap_alloc_last _ _) (by simp[zp]) (fun j v hj=>by
     have cA:j<16:=by
      have:=(List.getElem?_eq_some_iff.1 hj).1;simpa[qB]using this
     have e:(zp (mix f g)).toList[j]?=some (.int .i64 (mix f g j)):=(by rw[Array.getElem?_toList];exact yQ (mix f g) cA);rw[e]at hj;simp only[Option.some.injEq]at hj;subst hj;rw[add_lit,Nat.zero_add];exact(zI bB (yQ (mix f g) cA)).1) (by rw[tA];simp[zp]) (fun v hv=>(Array.all_eq_true_iff_forall_mem.1 (zAs _)) v (by simpa using hv))
   have e0:((zA2 #[.int .i64 0,.int .i64 0] 8).toList.drop 16) = []:=List.drop_eq_nil_of_le (by simp[tA]);have e1:((zA2 #[.int .i64 0,.int .i64 0] 8).toList.take 0 ++ (zp (mix f g)).toList ++ (zA2 #[.int .i64 0,.int .i64 0] 8).toList.drop (0+(zp (mix f g)).toList.length)).toArray=zp (mix f g):=by
    have hl:(zp (mix f g)).toList.length=16:=(by simp[zp]);rw[hl,Nat.zero_add,e0];simp
   rw[e1,World.setRow_alloc_new]at hr;exact hr
  have Hz:=zE hz;clear rA bB oA hz;have kB:=eA.out 3;obtain⟨⟨x4,x5⟩,⟨x6,x7⟩⟩:=HB.out.zRJ iA.out;go_wp2_with (first
   | (refine wpList_load_row rfl 155 (.tmp 4) rfl (w.heap.size+1) rfl 155 (zp (mix f g)) (0,0) _ HA.out zHH rfl fA.out ?_)
   | fail)
  have HS:Hid (qI (W.alloc (.cells (zp (mix f g)) 61)) 0 (W.alloc (.cells (zp (mix f g)) 61)).heap.size (.int .i64 (qW f g b).zRU) (.slice (some ⟨W.heap.size,0,none⟩) 8 8) (.string (qW f g b).data) (qW f g b)):=by
   refine⟨rfl,⟨by show 8<=maxLen;unfold maxLen;omega,_,8,rfl,Nat.le_refl _,fun _=>⟨W.heap.size,0,rfl,Nat.zero_le _,by simp,fun i hi=>?_⟩⟩,rfl,by show 0<=maxLen;omega⟩;have mB:i<8:=hi;have vA:(W.alloc (.cells (zp (mix f g)) 61)).heap[W.heap.size]?=some (.cells (zp (mix f g)) 61):=heap_alloc_last _ _;have g1:=(zI vA (yQ (mix f g) (show i*2<16 by omega))).1;have g2:=(zI vA (yQ (mix f g) (show i*2+1<16 by omega))).1;rw[(zGT f g i).1]at g1;rw[(zGT f g i).2]at g2;rw[Nat.zero_add];exact⟨g1,g2⟩
  refine(zGR _ _ _ lo hi 0 _ p (qW f g b) _ (Hp.out.zRJ (zA dA iA.out)) HS.out (by show qD p+(8+0)<=_;exact Hn.out)).mono ?_;rintro e w3 ⟨s0,s1,rfl,aB,cB⟩;have bA:=zA iA.out cB;have hz:=Hz.out;have sA:=zE (HR.out.zRJ bA);have iB:=zA dA bA;have nB:=bA.size;have He:Hid (zEy p f g b=zCt p (qW f g b)):=if_neg HN.out;have lA:Hid (zt w3 W.heap.size w3.heap.size s0 s1 (zCt p (qW f g b)).zRQ):=aB.zRO iA.out.size (Nat.le_refl _);generalize zCt p (qW f g b)=o at lA He ⊢;obtain⟨a1,c1,a2,c2,rfl,rfl⟩:=lA.out.form;clear aB cB bA x0 x1 x2 x3 x4 x5 x6 x7 hB HS eA kB;obtain⟨⟨u0,u1⟩,⟨u2,u3⟩,⟨u4,u5⟩,⟨u6,u7⟩,⟨u8,u9⟩⟩:=sA.out;go_wp2;have aA:=sA.out.put (.slice a1 o.zRQ.n c1) (.slice a2 o.zRQ.hn c2) (.int .i64 o.ps) (.int .i64 o.pb) (.int .i64 o.code);have gA:=zHP (R:=w.heap.size+1+1) (u2:=.int .i64 o.ps) (u3:=.int .i64 o.pb) (u4:=.int .i64 o.code) lA.out (by omega) (by omega) (Nat.le_refl _) iB;rw[He.out];exact bodyPost_ret (v:=.agg #[.slice a1 o.zRQ.n c1,.slice a2 o.zRQ.hn c2,.int .i64 o.ps,.int .i64 o.pb,.int .i64 o.code]) (by simp[results,Tryz.results161,go_sem,aA.1.1,aA.2.1.1,aA.2.2.1.1,aA.2.2.2.1.1,aA.2.2.2.2.1]) rfl ⟨_,_,rfl,gA.1,gA.2⟩
def zA6(f g:Nat->Int)(n:Nat):List (Int×Int):=(List.range n).map fun i=>(f i,g i)
theorem yG(f g:Nat->Int)(n:Nat):(zA6 f g n).length=n:=by simp[zA6]
theorem zNv(f g:Nat->Int)(n:Nat):zA6 f g (n+1)=zA6 f g n ++ [(f n,g n)]:=by simp[zA6,List.range_succ]
theorem zKm(f g:Nat->Int){n i:Nat}(h:i<n):zf (zA6 f g n) i=f i/\zh (zA6 f g n) i=g i:=by
 have:(zA6 f g n).getD i (0,0)=(f i,g i):=by
  rw[List.getD_eq_getElem?_getD,List.getElem?_eq_getElem (by rw[yG];exact h),Option.getD_some];simp[zA6]
 unfold zf zh;rw[this];exact⟨rfl,rfl⟩
theorem zId{f g f' g':Nat->Int}{n:Nat}(h:∀i,i<n->f i=f' i/\g i=g' i):zA6 f g n=zA6 f' g' n:=by
 unfold zA6;apply List.map_congr_left;intro i hi;rw[List.mem_range]at hi;rw[(h i hi).1,(h i hi).2]
theorem zJC{w:World}{b off:Nat}{f g:Nat->Int}:∀{n:Nat},(∀i,i<n->w.cell? ⟨b,off+i*2,none⟩=some (.int .i64 (f i))/\w.cell? ⟨b,off+i*2+1,none⟩=some (.int .i64 (g i)))->∀j u,(pcl (zA6 f g n))[j]?=some u->w.cell? ⟨b,off+j,none⟩=some u
 | 0,_,j,u,hj=>by simp[zA6,pcl]at hj
 | n+1,h,j,u,hj=>by
  rw[zNv,zBE]at hj;by_cases aA:j<n*2
  ·rw[List.getElem?_append_left (by rw[zA3,yG];exact aA)]at hj;exact zJC (fun i hi=>h i (by omega)) j u hj
  ·rw[List.getElem?_append_right (by rw[zA3,yG];omega),zA3,yG]at hj;obtain⟨h1,h2⟩:=h n (Nat.lt_succ_self n);have bA:j - n*2<2:=by
    have:=(List.getElem?_eq_some_iff.1 hj).1;simpa[pcl]using this
   by_cases e:j=n*2
   ·subst e;rw[h1];simpa[pcl]using hj
   ·obtain rfl:j=n*2+1:=(by omega);rw[show n*2+1 - n*2=1 by omega]at hj;rw[<-Nat.add_assoc,h2];simpa[pcl]using hj
def yp(p:zJ)(xs xb:Int)(i:Nat):Int:=if Nil xs xb then 0 else zb (p.s xs.toNat) i
def zAF(p:zJ)(xs xb:Int)(i:Nat):Int:=if Nil xs xb then 0 else zu (p.s xs.toNat) i
theorem zPx:pcl (zA6 (fun _=>0) (fun _=>0) 8)=(zA2 #[.int .i64 0,.int .i64 0] 8).toList:=by kernel_rfl
theorem zCs(v0 v1:Value)(lo hi:Nat)(p:zJ)(xs xb:Int)(w:World)(h1:zy w lo hi v0 v1 p)(hP:Nil xs xb\/(zr p xs xb/\(p.s xs.toNat).kn=8)) :
  Calls Tryz.prog 85 #[.agg #[v0,v1],.agg #[.int .i64 xs,.int .i64 xb]] w fun e w'=>∃b cp,e = .returned (.slice (some ⟨b,0,none⟩) 8 cp)/\zw w' w.heap.size (.slice (some ⟨b,0,none⟩) 8 cp) (zA6 (yp p xs xb) (zAF p xs xb) 8)/\Below w.heap.size w w':=by
 have Hp:=zE h1;have HP:=zE hP;obtain⟨a,c,a',c',rfl,rfl⟩:∃a c a' c',v0 = .slice a p.n c/\v1 = .slice a' p.hn c':=by
  obtain⟨⟨_,a,c,h1,_⟩,⟨_,a',c',h3,_⟩⟩:=h1;exact⟨a,c,a',c',h1,h3⟩
 clear h1 hP;have oA:=zBq w (.slice a p.n c) (.slice a' p.hn c') (.int .i64 xs) (.int .i64 xb) 33 61;obtain⟨i0,tA,mA⟩:=Option.map_eq_some_iff.1 zAz;simp only[Prod.mk.injEq]at mA;have HI:=zE (And.intro tA mA);clear tA mA;go_enter Tryz.func85,Tryz.ntmps85;go_wp2_with fail;generalize (w.alloc (.cells #[.slice a p.n c,.slice a' p.hn c'] 33)).alloc (.cells #[.int .i64 xs,.int .i64 xb] 61)=W at oA ⊢;obtain⟨hB,hX,rA,hz⟩:=oA;refine(yf xs xb W).mono ?_;rintro e w1 ⟨⟨t,rfl,ht⟩,dA⟩;have aB:=zE (hB.zRJ dA);have sA:=zE (hX.zRJ dA);have pA:=zA rA dA;have mB:w.heap.size+2<=w1.heap.size:=by have:=dA.size;omega
 clear hB hX rA dA hz;by_cases hn:Nil xs xb
 ·have HN:=zE hn;obtain rfl:t=true:=ht.2 hn;clear ht hn;have nA:=zBC 62 61 (.agg #[.int .i64 0,.int .i64 0]) 2 16 (by kernel_rfl) zKu rfl 8 (by omega) (by omega);have iB:∀w,(Instr.makeSlice 62 (.int .i64 8) (.int .i64 8)).run Tryz.prog w = .ok (.slice (some ⟨w.heap.size,0,none⟩) 8 8) (w.alloc (.cells (zA2 #[.int .i64 0,.int .i64 0] 8) 61)):=nA;clear nA;have fA:=World.ownsRow_lit (e:=61) (size:=2) (base:=w.heap.size) w1 (zA2 #[.int .i64 0,.int .i64 0] 8) 8 (by omega) (by unfold maxLen;omega) (by decide +kernel);have cB:=zA pA (zC w1 (.cells (zA2 #[.int .i64 0,.int .i64 0] 8) 61));have cA:=zE fA;clear fA;go_wp2;go_ret;refine⟨_,_,rfl,?_,cB⟩;have e0:zA6 (yp p xs xb) (zAF p xs xb) 8=zA6 (fun _=>0) (fun _=>0) 8:=zId (fun i _=>⟨if_pos HN.out,if_pos HN.out⟩);unfold zw;rw[e0,zPx,yG];exact cA.out
 ·have HN:=zE hn;obtain rfl:t=false:=zQ ht hn;clear ht hn;obtain⟨kA,h8⟩:=HP.out.resolve_left HN.out;have eA:Hid (zA6 (yp p xs xb) (zAF p xs xb) 8=zA6 (p.s xs.toNat).ks (p.s xs.toNat).kb 8):=zId (fun i hi=>⟨(if_neg HN.out).trans (zCu h8 hi),(if_neg HN.out).trans (zEb h8 hi)⟩);obtain⟨k,rfl⟩:=Int.eq_ofNat_of_zero_le kA.2.1;have hk:k<p.n:=(by have:=kA.2.2.1;omega);have lB:(k:Int)<(p.n:Int):=(by omega);rw[Int.toNat_natCast]at h8 eA;clear kA HP;obtain⟨b,off,ka,kc,rfl,jA⟩:=Hp.out.1.cells hk;have vA:Hid (zU w lo hi (.slice ka 8 kc) 8 (p.s k).ks (p.s k).kb):=(by have:=jA.slot.2.1;rw[h8]at this;exact this);have iA:=zC w1 (.cells #[] 61);have gA:=zA pA iA;obtain⟨q0,q1,q2,_⟩:=jA.zRJ gA;rw[h8]at q1;have bB:=zE (aB.out.zRJ iA);have jB:=zE (sA.out.zRJ iA);have cA:=zE (World.ownsRow_lit (e:=61) (size:=2) (base:=w.heap.size) w1 #[] 0 (by omega) (by unfold maxLen;omega) rfl);have kB:(w1.alloc (.cells #[] 61)).heap.size=w1.heap.size+1:=World.size_alloc _ _;obtain⟨⟨x0,x1⟩,⟨x2,x3⟩⟩:=bB.out;obtain⟨⟨y0,y1⟩,⟨y2,y3⟩⟩:=jB.out;have fB:=zE (vA.out.zRJ gA);clear iA jA aB sA h8 vA;go_wp2_with (first
   | (at_builtin;refine qJ rfl _ _ 62 rfl w.heap.size 61 i0 (.agg #[.int .i64 0,.int .i64 0]) 2 16 (by kernel_rfl) HI.out.1 HI.out.2.1 HI.out.2.2.1 HI.out.2.2.2 rfl (by decide) (.slice (some ⟨w1.heap.size,0,none⟩) 0 0) 0 [] rfl ?c0 ka 8 kc (pcl (zA6 (p.s k).ks (p.s k).kb 8)) rfl (by rw[zA3,yG]) (zF7 _) ?c1 ?c3 ?c4 ?c5 ?_)
   | fail)
  case c0=>exact cA.out
  case c1=>
   intro h0;obtain⟨_,a2,c2,hv,_,hx⟩:=fB.out;simp only[Value.slice.injEq,true_and]at hv;obtain⟨rfl,rfl⟩:=hv;obtain⟨kb,lA,ha,_,_,h3⟩:=hx (by omega);exact⟨kb,lA,ha,zJC h3⟩
  case c3=>unfold maxLen;omega
  case c4=>omega
  case c5=>omega
  intro v3 w3 bA aA;obtain⟨g3,dB,rfl,_⟩:=World.ownsRow.form bA (by omega);have gB:Hid (zw w3 w.heap.size (.slice (some ⟨g3,0,none⟩) 8 dB) (zA6 (yp p k xb) (zAF p k xb) 8)):=by
   unfold zw;rw[eA.out,yG];exact bA
  have eB:=gA.grown aA gA.size (fun q hq=>by simp only[Value.ownBlock,Option.some.injEq]at hq;omega);clear bA aA;go_wp2;go_ret;exact⟨_,_,rfl,gB.out,eB⟩
def zKt(p:zJ)(xs xb:Int):Prop:=Nil xs xb\/(zr p xs xb/\(p.s xs.toNat).kn=8)
theorem zJ5{p:zJ}{xs xb:Int}(h:yk p xs xb):zKt p xs xb:=by
 rcases h.2 with h2 | h2
 ·exact Or.inl h2
 ·right;refine⟨h2.1.1,?_⟩;rcases zDC h.1 h2.1.1 with h3 | h3
  ·have:=h2.1.2.1;omega
  ·exact h3
theorem zKN{p:zJ}{xs xb:Int}(h:yk p xs xb){j:Nat}(hj:j<8):zKt p (yp p xs xb j) (zAF p xs xb j):=by
 by_cases hz:Nil xs xb
 ·left;unfold yp zAF;rw[if_pos hz,if_pos hz];exact⟨rfl,rfl⟩
 ·unfold yp zAF;rw[if_neg hz,if_neg hz];rcases(h.2.resolve_left hz).2.1.1 j hj with h2 | h2
  ·exact Or.inl h2
  ·right;refine⟨h2.1.1,?_⟩;rcases zDC h.1 h2.1.1 with h3 | h3
   ·have:=h2.1.2.1;omega
   ·exact h3
def qy(p:zJ)(xs xb:Int)(n:Nat):Int:=yp p xs xb (n / 8)
def yL(p:zJ)(xs xb:Int)(n:Nat):Int:=zAF p xs xb (n / 8)
def qo(p:zJ)(xs xb:Int)(n:Nat):Int:=yp p (qy p xs xb n) (yL p xs xb n) (n % 8)
def qp(p:zJ)(xs xb:Int)(n:Nat):Int:=zAF p (qy p xs xb n) (yL p xs xb n) (n % 8)
theorem zNK{p:zJ}{xs xb:Int}(h:yk p xs xb){n:Nat}(hn:n<64):Nil (qo p xs xb n) (qp p xs xb n)\/zEE p (qo p xs xb n) (qp p xs xb n):=by
 by_cases hz:Nil xs xb
 ·left;have e:Nil (qy p xs xb n) (yL p xs xb n):=(by unfold qy yL yp zAF;rw[if_pos hz,if_pos hz];exact⟨rfl,rfl⟩);unfold qo qp yp zAF;rw[if_pos e,if_pos e];exact⟨rfl,rfl⟩
 ·have e1:qy p xs xb n=zb (p.s xs.toNat) (n / 8):=if_neg hz;have e2:yL p xs xb n=zu (p.s xs.toNat) (n / 8):=if_neg hz;by_cases aA:Nil (qy p xs xb n) (yL p xs xb n)
  ·left;unfold qo qp yp zAF;rw[if_pos aA,if_pos aA];exact⟨rfl,rfl⟩
  ·have e3:qo p xs xb n=zb (p.s (qy p xs xb n).toNat) (n % 8):=if_neg aA;have e4:qp p xs xb n=zu (p.s (qy p xs xb n).toNat) (n % 8):=if_neg aA;rw[e3,e4];rcases(h.2.resolve_left hz).2.1.1 (n / 8) (by omega)with h2 | h2
   ·rw[<-e1,<-e2]at h2;exact absurd h2 aA
   ·have:=h2.2.1 (n % 8) (by omega);rw[<-e1]at this;exact this
theorem zQl(w:World)(a0 a1 x0 x1:Value)(t1 t2:TypeId) :
  zc ((((w.alloc (.cells #[a0,a1] t1)).alloc (.cells #[x0,x1] t2)).alloc (.cells #[.int .i64 0,.int .i64 0] t2)).alloc (.cells #[.int .i64 0,.int .i64 0] t2)) w.heap.size a0 a1/\
  zc ((((w.alloc (.cells #[a0,a1] t1)).alloc (.cells #[x0,x1] t2)).alloc (.cells #[.int .i64 0,.int .i64 0] t2)).alloc (.cells #[.int .i64 0,.int .i64 0] t2)) (w.heap.size+1) x0 x1/\
  zc ((((w.alloc (.cells #[a0,a1] t1)).alloc (.cells #[x0,x1] t2)).alloc (.cells #[.int .i64 0,.int .i64 0] t2)).alloc (.cells #[.int .i64 0,.int .i64 0] t2)) (w.heap.size+2) (.int .i64 0) (.int .i64 0)/\
  zc ((((w.alloc (.cells #[a0,a1] t1)).alloc (.cells #[x0,x1] t2)).alloc (.cells #[.int .i64 0,.int .i64 0] t2)).alloc (.cells #[.int .i64 0,.int .i64 0] t2)) (w.heap.size+2+1) (.int .i64 0) (.int .i64 0)/\
  Below w.heap.size w ((((w.alloc (.cells #[a0,a1] t1)).alloc (.cells #[x0,x1] t2)).alloc (.cells #[.int .i64 0,.int .i64 0] t2)).alloc (.cells #[.int .i64 0,.int .i64 0] t2))/\
  ((((w.alloc (.cells #[a0,a1] t1)).alloc (.cells #[x0,x1] t2)).alloc (.cells #[.int .i64 0,.int .i64 0] t2)).alloc (.cells #[.int .i64 0,.int .i64 0] t2)).heap.size=w.heap.size+4:=by
 obtain⟨h1,h2,h3,h4⟩:=zBq w a0 a1 x0 x1 t1 t2;generalize (w.alloc (.cells #[a0,a1] t1)).alloc (.cells #[x0,x1] t2)=W at h1 h2 h3 h4 ⊢;have b1:=zC W (.cells #[.int .i64 0,.int .i64 0] t2);have b2:=zC (W.alloc (.cells #[.int .i64 0,.int .i64 0] t2)) (.cells #[.int .i64 0,.int .i64 0] t2);have n1:=(zc.zRL W (.int .i64 0) (.int .i64 0) t2).zRJ b2;have n2:=zc.zRL (W.alloc (.cells #[.int .i64 0,.int .i64 0] t2)) (.int .i64 0) (.int .i64 0) t2;rw[h4]at n1;rw[World.size_alloc,h4]at n2;exact⟨(h1.zRJ b1).zRJ b2,(h2.zRJ b1).zRJ b2,n1,n2,zA (zA h3 b1) b2,by rw[World.size_alloc,World.size_alloc,h4]⟩
theorem qm(w:World)(b:Nat)(u v:Value):zF (fun k=>k=b) w ((w.setCell ⟨b,0,none⟩ u).setCell ⟨b,1,none⟩ v):=((zF.refl (fun k=>k=b) w).setCell (p:=⟨b,0,none⟩) rfl u).setCell (p:=⟨b,1,none⟩) rfl v
theorem zPl{w:World}{base g cp:Nat}{f h:Nat->Int}(hr:zw w base (.slice (some ⟨g,0,none⟩) 8 cp) (zA6 f h 8)){i:Nat}(hi:i<8):w.cell? ⟨g,i*2,none⟩=some (.int .i64 (f i))/\w.cell? ⟨g,i*2+1,none⟩=some (.int .i64 (h i)):=by
 obtain⟨b,bA,e,_,_,_,aA⟩:=qe hr (by rw[yG];omega);simp only[Value.slice.injEq,Option.some.injEq,Addr.mk.injEq,and_true]at e;obtain⟨rfl,_⟩:=e;have h1:=(aA _ _ (zBT (zA6 f h 8) i (by rw[yG];exact hi)).1).1;have h2:=(aA _ _ (zBT (zA6 f h 8) i (by rw[yG];exact hi)).2).1;have:=zKm f h hi;unfold zf zh at this;rw[this.1]at h1;rw[this.2]at h2;exact⟨h1,h2⟩
theorem zLt(v0 v1:Value)(lo hi:Nat)(p:zJ)(xs xb:Int)(n:Nat)(w:World)(h1:zy w lo hi v0 v1 p)(hT:yk p xs xb)(hn:n<64) :
  Calls Tryz.prog 83 #[.agg #[v0,v1],.agg #[.int .i64 xs,.int .i64 xb],.int .i64 (n:Int)] w fun e w'=>e = .returned (.tuple #[.agg #[.int .i64 (qo p xs xb n),.int .i64 (qp p xs xb n)],.agg #[.int .i64 (qy p xs xb n),.int .i64 (yL p xs xb n)]])/\Below w.heap.size w w':=by
 have Hp:=zE h1;have HT:=zE hT;obtain⟨a,c,a',c',rfl,rfl⟩:∃a c a' c',v0 = .slice a p.n c/\v1 = .slice a' p.hn c':=by
  obtain⟨⟨_,a,c,h1,_⟩,⟨_,a',c',h3,_⟩⟩:=h1;exact⟨a,c,a',c',h1,h3⟩
 clear h1 hT;have kA:=zQl w (.slice a p.n c) (.slice a' p.hn c') (.int .i64 xs) (.int .i64 xb) 33 61;have hq:(n:Int).tdiv 8=((n / 8:Nat):Int):=(Int.ofNat_tdiv n 8).symm;have hr:(n:Int).tmod 8=((n % 8:Nat):Int):=(Int.ofNat_tmod n 8).symm;have dB:((n / 8:Nat):Int)<8:=by omega
 have fB:((n % 8:Nat):Int)<8:=by omega
 have vA:(n:Int)<64:=by omega
 have aB:0<=(n:Int) % 8:=by omega
 have eB:(n:Int) % 8<8:=by omega
 have bB:((n:Int) % 8).toNat=n % 8:=by omega
 go_enter Tryz.func83,Tryz.ntmps83;go_wp2_with fail;generalize ((((w.alloc (.cells #[.slice a p.n c,.slice a' p.hn c'] 33)).alloc (.cells #[.int .i64 xs,.int .i64 xb] 61)).alloc (.cells #[.int .i64 0,.int .i64 0] 61)).alloc (.cells #[.int .i64 0,.int .i64 0] 61))=W0 at kA ⊢;obtain⟨hB,hX,lA,pA,dA,hz⟩:=kA;refine(zCs _ _ lo hi p xs xb W0 (Hp.out.zRJ dA) (zJ5 HT.out)).mono ?_;rintro e w1 ⟨g,cp,rfl,eA,iA⟩;obtain⟨q0,q1⟩:=zPl eA (show n / 8<8 by omega);have oA:=zC w1 (.cells #[.int .i64 (yp p xs xb (n / 8)),.int .i64 (zAF p xs xb (n / 8))] 61);have hC:=zA iA oA;have cA:=zE (hB.zRJ hC);have jA:=zE (lA.zRJ hC);have mA:=zE (pA.zRJ hC);have bA:=zE (show zc (w1.alloc (.cells #[.int .i64 (yp p xs xb (n / 8)),.int .i64 (zAF p xs xb (n / 8))] 61)) w1.heap.size (.int .i64 (qy p xs xb n)) (.int .i64 (yL p xs xb n))from zc.zRL w1 _ _ _);have gA:=zA dA hC;have tA:=zE (show zKt p (qy p xs xb n) (yL p xs xb n)from zKN HT.out (by omega));have sA:w.heap.size+4<=w1.heap.size:=by have:=iA.size;omega
 clear eA iA oA hC hB hX lA pA dA hz;have nA:w1.heap.size<(w1.alloc (.cells #[.int .i64 (yp p xs xb (n / 8)),.int .i64 (zAF p xs xb (n / 8))] 61)).heap.size:=by rw[World.size_alloc];omega
 go_wp2_with fail;generalize w1.alloc (.cells #[.int .i64 (yp p xs xb (n / 8)),.int .i64 (zAF p xs xb (n / 8))] 61)=W at cA jA mA bA gA nA ⊢;clear q0 q1;generalize w1.heap.size=X at bA sA nA ⊢;obtain⟨⟨x0,x1⟩,⟨x2,x3⟩⟩:=cA.out;obtain⟨⟨y0,y1⟩,⟨y2,y3⟩⟩:=bA.out;refine wp_region_held_drew (S:=(fun w'=>w'.cell? ⟨w.heap.size,0,none⟩=some (.slice a p.n c)/\w'.cell? ⟨w.heap.size,1,none⟩=some (.slice a' p.hn c')/\w'.cell? ⟨X,0,none⟩=some (.int .i64 (qy p xs xb n))/\w'.cell? ⟨X,1,none⟩=some (.int .i64 (yL p xs xb n)))) (by kernel_rfl) ?_ (fun hHeld=>?_)
 ·(try dsimp only)
  go_keep
 refine tk 0 (h:=tk 1 (h:=tk 3 (h:=tk 4 (h:=tk 7 (h:=?_)))));refine rd [2] (rc (fun K hK=>?_) .nil);go_simp;go_at_call 85;refine(zCs _ _ lo hi p (qy p xs xb n) (yL p xs xb n) _ ?_ tA.out).mono ?_
 ·first | exact Hp.out.zRJ gA | exact Hp.out.zRJ gA.drew
 rintro e wa ⟨g2,cB,rfl,fA,dA⟩;have aA:Below W.heap.size W wa:=(by first | exact dA | exact zK dA);obtain⟨⟨k0,_⟩,⟨k1,_⟩⟩:=cA.out.zRJ aA;obtain⟨⟨k2,_⟩,⟨k3,_⟩⟩:=bA.out.zRJ aA;obtain⟨r0,r1⟩:=zPl fA (show n % 8<8 by omega);obtain⟨⟨l0,l1⟩,⟨l2,l3⟩⟩:zc wa (w.heap.size+1+1) (.int .i64 0) (.int .i64 0):=jA.out.zRJ aA;obtain⟨⟨m0,m1⟩,⟨m2,m3⟩⟩:zc wa (w.heap.size+1+1+1) (.int .i64 0) (.int .i64 0):=mA.out.zRJ aA
 (try go_wp2_with fail)
 refine hK.out _ _ (by(try dsimp only);go_keep) ?_;clear hK K hHeld;intro hHeld
 try simp only[Act.put,s1,s2,s3]
 refine tk 5 (h:=?_);refine rd [6] (rc (fun K hK=>?_) .nil);go_simp
 (try go_wp2_with fail)
 refine hK.out _ _ (by(try dsimp only);go_keep) ?_;clear hK K hHeld;intro hHeld
 try simp only[Act.put,s1,s2,s3]
 refine rd [8] (rc (fun K hK=>?_) .nil);go_simp
 (try go_wp2_with fail)
 refine hK.out _ _ (by(try dsimp only);exact⟨((cA.out.zRJ aA).zRR (qm _ _ _ _) (by omega)).1.1,((cA.out.zRJ aA).zRR (qm _ _ _ _) (by omega)).2.1,((bA.out.zRJ aA).zRR (qm _ _ _ _) (by omega)).1.1,((bA.out.zRJ aA).zRR (qm _ _ _ _) (by omega)).2.1⟩) ?_;clear hK K hHeld;intro hHeld
 try simp only[Act.put,s1,s2,s3]
 refine rd [9] (rc (fun K hK=>?_) .nil);go_simp
 (try go_wp2_with fail)
 refine hK.out _ _ (by(try dsimp only);exact⟨(((cA.out.zRJ aA).zRR (qm _ _ _ _) (by omega)).zRR (qm _ _ _ _) (by omega)).1.1,(((cA.out.zRJ aA).zRR (qm _ _ _ _) (by omega)).zRR (qm _ _ _ _) (by omega)).2.1,(((bA.out.zRJ aA).zRR (qm _ _ _ _) (by omega)).zRR (qm _ _ _ _) (by omega)).1.1,(((bA.out.zRJ aA).zRR (qm _ _ _ _) (by omega)).zRR (qm _ _ _ _) (by omega)).2.1⟩) ?_;clear hK K hHeld;intro hHeld
 try simp only[Act.put,s1,s2,s3]
 refine wpAnyH_done (by kernel_rfl) ?_ _;have rA:Below w.heap.size w wa:=zA gA aA;go_wp2;refine bodyPost_ret (v:=.tuple #[.agg #[.int .i64 (qo p xs xb n),.int .i64 (qp p xs xb n)],.agg #[.int .i64 (qy p xs xb n),.int .i64 (yL p xs xb n)]]) (by simp[results,Tryz.results83,go_sem,l0,l2,m0,m2,qo,qp]) rfl ⟨rfl,?_⟩;exact(((rA.setCell (by show w.heap.size<=w.heap.size+1+1;omega) _).setCell (by show w.heap.size<=w.heap.size+1+1;omega) _).setCell (by show w.heap.size<=w.heap.size+1+1+1;omega) _).setCell (by show w.heap.size<=w.heap.size+1+1+1;omega) _
def hop(J:Nat->Act->World->Prop)(Q:Exit->Act->World->Prop):Exit->Act->World->Prop
 | .goto l,a,w=>J l a w
 | e,a,w=>Q e a w
def JU(P:Program)(c:Code)(Q:Exit->Act->World->Prop):Nat->Nat->Act->World->Prop
 | 0,_,_,_=>False
 | n+1,l,a,w=>∃rest,findLabel c l=some rest/\rest.wp P (hop (JU P c Q n) Q) a w
theorem zI7{P:Program}{a:Act}{w:World}{Q:Exit->Act->World->Prop}{c:Code}(n:Nat)(first:c.wp P (hop (JU P c Q n) Q) a w):(Code.scope c).wp P Q a w:=by
 intro b k cs;have key:∀n l cA a w,findLabel c l=some cA->cA.wp P (hop (JU P c Q n) Q) a w->∃e a' w',Q e a' w'/\Arrives P (lone (b.at a (.code cA :: .inScope c :: k)) cs w) b k cs e a' w':=by
  intro n
  induction n with
  | zero=>
   intro l cA a w hf hw;obtain⟨e,a₁,w₁,hq,aA⟩:=hw b (.inScope c :: k) cs;cases e with
   | normal=>exact⟨.normal,a₁,w₁,hq,Steps.trans aA (.one step_inScope)⟩
   | exit id=>exact⟨.exit id,a₁,w₁,hq,fun k' hk=>aA k' (by simp[exitTo,hk])⟩
   | goto l'=>exact False.elim hq
   | ret=>exact⟨_,a₁,w₁,hq,aA⟩
   | panic ch=>exact⟨_,a₁,w₁,hq,aA⟩
   | outgrown=>exact⟨_,a₁,w₁,hq,aA⟩
  | succ n ih=>
   intro l cA a w hf hw;obtain⟨e,a₁,w₁,hq,aA⟩:=hw b (.inScope c :: k) cs;cases e with
   | normal=>exact⟨.normal,a₁,w₁,hq,Steps.trans aA (.one step_inScope)⟩
   | exit id=>exact⟨.exit id,a₁,w₁,hq,fun k' hk=>aA k' (by simp[exitTo,hk])⟩
   | goto l'=>
    obtain⟨bA,eA,fA⟩:=hq;obtain⟨e₂,a₂,w₂,gA,dA⟩:=ih l' bA a₁ w₁ eA fA;have hg:gotoIn l' (.inScope c :: k)=some (.code bA :: .inScope c :: k):=(by simp[gotoIn,eA]);exact⟨e₂,a₂,w₂,gA,.of_steps (aA _ hg) dA⟩
   | ret=>exact⟨_,a₁,w₁,hq,aA⟩
   | panic ch=>exact⟨_,a₁,w₁,hq,aA⟩
   | outgrown=>exact⟨_,a₁,w₁,hq,aA⟩
 obtain⟨e,a₁,w₁,hq,aA⟩:=first b (.inScope c :: k) cs
 cases e with
 | normal=>exact⟨.normal,a₁,w₁,hq,.head step_scope (Steps.trans aA (.one step_inScope))⟩
 | exit id=>exact⟨.exit id,a₁,w₁,hq,fun k' hk=>.head step_scope (aA k' (by simp[exitTo,hk]))⟩
 | goto l'=>
  match n,hq with
  | n+1,hq=>
   obtain⟨bA,eA,fA⟩:=hq;obtain⟨e₂,a₂,w₂,gA,dA⟩:=key n l' bA a₁ w₁ eA fA;have hg:gotoIn l' (.inScope c :: k)=some (.code bA :: .inScope c :: k):=(by simp[gotoIn,eA]);exact⟨e₂,a₂,w₂,gA,.of_steps (.head step_scope (aA _ hg)) dA⟩
 | ret=>exact⟨_,a₁,w₁,hq,.of_steps (.one step_scope) aA⟩
 | panic ch=>exact⟨_,a₁,w₁,hq,.of_steps (.one step_scope) aA⟩
 | outgrown=>exact⟨_,a₁,w₁,hq,.of_steps (.one step_scope) aA⟩
def zNr:Array Value:=#[.int .i64 0,.int .i64 0,.int .i64 0,.int .i64 0,.int .i64 0,.int .i64 0,.int .i64 0,.int .i64 0,.int .i64 0,.int .i64 0,.int .i64 0,.int .i64 0,.int .i64 0,.int .i64 0,.int .i64 0,.int .i64 0,.int .i64 0,.int .i64 0,.int .i64 0,.int .i64 0,.int .i64 0,.int .i64 0,.int .i64 0,.int .i64 0,.int .i64 0,.int .i64 0,.int .i64 0,.int .i64 0,.int .i64 0,.int .i64 0,.int .i64 0,.int .i64 0,.int .i64 0,.int .i64 0,.int .i64 0,.int .i64 0,.int .i64 0,.int .i64 0,.int .i64 0,.int .i64 0,.slice none 0 0]
def zHw(n:Nat):Array Value:=#[.int .i64 ((n:Int) / 8),.int .i64 ((n:Int) % 8),.int .i64 0,.int .i64 0,.int .i64 0,.int .i64 0,.int .i64 0,.int .i64 0,.int .i64 0,.int .i64 0,.int .i64 0,.int .i64 0,.int .i64 0,.int .i64 0,.int .i64 0,.int .i64 0,.int .i64 0,.int .i64 0,.int .i64 0,.int .i64 0,.int .i64 0,.int .i64 0,.int .i64 0,.int .i64 0,.int .i64 0,.int .i64 0,.int .i64 0,.int .i64 0,.int .i64 0,.int .i64 0,.int .i64 0,.int .i64 0,.int .i64 0,.int .i64 0,.int .i64 0,.int .i64 0,.int .i64 0,.int .i64 0,.int .i64 0,.int .i64 0,.slice none 0 0]
theorem zJx:(Tryz.prog.info? 159).map (·.size)=some 41:=by kernel_rfl
theorem zOr(n:Nat):(Tryz.prog.info? 159).map (·.size)=some (zHw n).size:=zJx
theorem zPt(n:Nat):(zHw n).all (·.oneCell')=true:=by simp[zHw,Value.oneCell']
def yO(w:World)(B:Nat)(f:Nat->Value):Prop:=∀i,i<41->zX w B i (f i)
theorem yO.zRJ{w w':World}{B:Nat}{f:Nat->Value}(h:yO w B f)(t:Below w.heap.size w w'):yO w' B f:=fun i hi=>(h i hi).zRJ t
theorem yO.zRR{S:Nat->Prop}{w w':World}{B:Nat}{f:Nat->Value}(h:yO w B f)(t:zF S w w')(hs:¬S B):yO w' B f:=fun i hi=>(h i hi).zRR t hs
theorem yO.congr{w:World}{B:Nat}{f g:Nat->Value}(h:yO w B f)(e:∀i,i<41->f i=g i):yO w B g:=fun i hi=>e i hi▸h i hi
theorem yO.put{w:World}{B:Nat}{f:Nat->Value}(h:yO w B f)(o:Nat)(v:Value):yO (w.setCell ⟨B,o,none⟩ v) B (fun i=>if i=o then v else f i):=fun i hi=>by
 show zX _ B i (if i=o then v else f i);by_cases e:i=o
 ·subst e;rw[if_pos rfl];exact(h i hi).set v
 ·rw[if_neg e];exact(h i hi).zRK v (Or.inr (fun h=>e h.symm))
theorem yO.there{w:World}{B:Nat}{f:Nat->Value}(h:yO w B f){o n:Nat}(hn:o+n<=41):w.there B o n:=fun j hj=>⟨by rw[(h (o+j) (by omega)).1];rfl,(h (o+j) (by omega)).2⟩
theorem yO.range{w:World}{B:Nat}{f:Nat->Value}(h:yO w B f):w.rangeAt B 0 ((List.range 41).map f):=fun j v hv=>by
 have hj:j<41:=by have:=(List.getElem?_eq_some_iff.1 hv).1;simpa using this
 rw[Nat.zero_add,(h j hj).1];simpa[hj]using hv
theorem yO.puts{w:World}{B:Nat}{f:Nat->Value}(h:yO w B f)(o:Nat)(vs:List Value)(hv:o+vs.length<=41):yO (w.setCells B o vs) B (fun i=>if o<=i/\i<o+vs.length then vs.getD (i - o) undef else f i):=fun i hi=>by
 refine⟨?_,?_⟩
 ·show _=some (if o<=i/\i<o+vs.length then vs.getD (i - o) undef else f i);by_cases e:o<=i/\i<o+vs.length
  ·rw[if_pos e];have:=World.cell?_setCells_in B vs o w (fun j hj=>by rw[(h (o+j) (by omega)).1];rfl) (i - o) (by omega);rw[show o+(i - o)=i by omega]at this;rw[this,List.getD_eq_getElem?_getD,List.getElem?_eq_getElem (by omega),Option.getD_some]
  ·rw[if_neg e,World.cell?_setCells_out B vs o w ⟨B,i,none⟩ (fun _ _=>by show i<o\/o+vs.length<=i;omega)];exact(h i hi).1
 ·rw[World.frozen?_setCells];exact(h i hi).2
def zAT(f:Nat->Value):Array Value:=((List.range 41).map f).toArray
theorem zEd(f:Nat->Value):(zAT f).size=41:=by simp[zAT]
theorem zDD(f:Nat->Value):(Tryz.prog.info? 159).map (·.size)=some (zAT f).size:=by rw[zEd];exact zJx
theorem zPc:(Tryz.prog.underlying 159).map (fun d=>d.isRow)=some true:=by kernel_rfl
def zQG(n:Nat)(i:Nat):Value:=if i=0 then .int .i64 ((n:Int) / 8)else if i=1 then .int .i64 ((n:Int) % 8)else if i=40 then .slice none 0 0 else .int .i64 0
theorem zP7(W:World)(n:Nat):yO (W.alloc (.cells (zHw n) 159)) W.heap.size (zQG n):=fun i hi=>by
 refine zI (i:=i) (heap_alloc_new W (.cells (zHw n) 159)) ?_;have:zHw n=zAT (zQG n):=by rfl
 rw[this];simp[zAT,hi]
theorem zLa{J J':Nat->Act->World->Prop}{Q:Exit->Act->World->Prop}(h:∀l a w,J l a w->J' l a w):∀{e:Exit} {a:Act} {w:World},hop J Q e a w->hop J' Q e a w
 | .goto l,a,w,he=>h l a w he
 | .normal,_,_,he=>he
 | .exit _,_,_,he=>he
 | .ret,_,_,he=>he
 | .panic _,_,_,he=>he
 | .outgrown,_,_,he=>he
theorem zJw{P:Program}{a:Act}{w:World}{Q:Exit->Act->World->Prop}{c:Code}(R:Nat->Nat->Act->World->Prop)(n:Nat)(zero:∀l a w,¬R 0 l a w)
  (step:∀n l a w,R (n+1) l a w->∃aA,findLabel c l=some (Code.skip.seq aA)/\aA.wp P (hop (R n) Q) a w)
  (first:(∀l a w aA,findLabel c l=some (Code.skip.seq aA)->R (n+1) l a w->aA.wp P (hop (R n) Q) a w)->c.wp P (hop (R n) Q) a w):(Code.scope c).wp P Q a w:=by
 have key:∀n l a w,R n l a w->JU P c Q n l a w:=by
  intro n
  induction n with
  | zero=>intro l a w h;exact absurd h (zero l a w)
  | succ n ih=>
   intro l a w h;obtain⟨aA,hf,hw⟩:=step n l a w h;exact⟨_,hf,Code.wp_mono (fun e a w he=>zLa ih he) (wp_seq (wp_skip hw))⟩
 refine zI7 n (Code.wp_mono (fun e a w he=>zLa (key n) he) (first ?_));intro l a w aA hf hR;obtain⟨cA,bA,hw⟩:=step n l a w hR;rw[hf]at bA;simp only[Option.some.injEq,Code.seq.injEq,true_and]at bA;rw[bA];exact hw
def qq(p:zJ)(xs xb:Int)(n L:Nat):Int:=if L=0 then xs else if L=1 then qy p xs xb n else qo p xs xb n
def yR(p:zJ)(xs xb:Int)(n L:Nat):Int:=if L=0 then xb else if L=1 then yL p xs xb n else qp p xs xb n
def plc(n L:Nat):Nat:=if L=0 then n / 8 else n % 8
def zB8(p:zJ)(xs xb:Int)(n L j:Nat):Int:=if Nil (qq p xs xb n L) (yR p xs xb n L)then 0 else zk (p.s (qq p xs xb n L).toNat) j
theorem zDM(p:zJ)(xs xb:Int)(n:Nat){L:Nat}(h:L<2):qq p xs xb n (L+1)=zB8 p xs xb n L (plc n L*2)/\yR p xs xb n (L+1)=zB8 p xs xb n L (plc n L*2+1):=by
 rcases L with _ | _ | L
 ·exact⟨rfl,rfl⟩
 ·exact⟨rfl,rfl⟩
 ·omega
theorem zIT{n L:Nat}(h:n<64):plc n L<8:=by unfold plc;split<;>omega
theorem zEn{p:zJ}{xs xb:Int}{n L:Nat}(h:Nil (qq p xs xb n L) (yR p xs xb n L))(hL:L<2):Nil (qq p xs xb n (L+1)) (yR p xs xb n (L+1)):=by
 rw[(zDM p xs xb n hL).1,(zDM p xs xb n hL).2];unfold zB8;rw[if_pos h,if_pos h];exact⟨rfl,rfl⟩
theorem zQo{p:zJ}{xs xb:Int}{n L:Nat}(h:yk p xs xb)(hn:n<64)(hL:L<2):zKt p (qq p xs xb n L) (yR p xs xb n L):=by
 rcases L with _ | _ | L
 ·exact zJ5 h
 ·exact zKN h (by omega)
 ·omega
def yJ(p:zJ)(xs xb:Int)(n K M:Nat)(o:Value)(i:Nat):Value:=
 if i<2 then .int .i64 (plc n i:Nat)
 else if i<34 then .int .i64 (if (i - 2) / 16<K then zB8 p xs xb n ((i - 2) / 16) ((i - 2) % 16)else 0)
 else if i<40 then .int .i64 (if (i - 34) / 2<M then(if (i - 34) % 2=0 then qq p xs xb n ((i - 34) / 2)else yR p xs xb n ((i - 34) / 2))else 0)
 else o
theorem zO0(p:zJ)(xs xb:Int)(n:Nat){i:Nat}(hi:i<41):zQG n i=yJ p xs xb n 0 0 (.slice none 0 0) i:=by
 unfold zQG yJ;by_cases h0:i=0
 ·subst h0;rfl
 by_cases h1:i=1
 ·subst h1;rfl
 rw[if_neg h0,if_neg h1,if_neg (show ¬i<2 by omega)];by_cases h2:i=40
 ·subst h2;rfl
 rw[if_neg h2];by_cases h3:i<34
 ·rw[if_pos h3,if_neg (Nat.not_lt_zero _)]
 ·rw[if_neg h3,if_pos (by omega),if_neg (Nat.not_lt_zero _)]
theorem zP8{p:zJ}{xs xb:Int}{n K L:Nat}{o:Value}{w:World}{B:Nat}(hL:L<3)(h:yO w B (yJ p xs xb n K L o)) :
  yO ((w.setCell ⟨B,34+L*2,none⟩ (.int .i64 (qq p xs xb n L))).setCell ⟨B,34+L*2+1,none⟩ (.int .i64 (yR p xs xb n L))) B (yJ p xs xb n K (L+1) o):=by
 refine((h.put _ _).put _ _).congr fun i hi=>?_
 show(if i=34+L*2+1 then _ else if i=34+L*2 then _ else _)=_;by_cases h1:i=34+L*2+1
 ·subst h1;rw[if_pos rfl];unfold yJ;rw[if_neg (by omega),if_neg (by omega),if_pos (by omega),show(34+L*2+1 - 34) / 2=L by omega,show(34+L*2+1 - 34) % 2=1 by omega,if_pos (by omega),if_neg (by omega)]
 rw[if_neg h1];by_cases h2:i=34+L*2
 ·subst h2;rw[if_pos rfl];unfold yJ;rw[if_neg (by omega),if_neg (by omega),if_pos (by omega),show(34+L*2 - 34) / 2=L by omega,show(34+L*2 - 34) % 2=0 by omega,if_pos (by omega),if_pos rfl]
 rw[if_neg h2];unfold yJ;by_cases h3:i<2
 ·rw[if_pos h3,if_pos h3]
 by_cases h4:i<34
 ·rw[if_neg h3,if_neg h3,if_pos h4,if_pos h4]
 rw[if_neg h3,if_neg h3,if_neg h4,if_neg h4];by_cases h5:i<40
 ·rw[if_pos h5,if_pos h5];by_cases h6:(i - 34) / 2<L
  ·rw[if_pos h6,if_pos (show(i - 34) / 2<L+1 by omega)]
  ·rw[if_neg h6,if_neg (by omega)]
 ·rw[if_neg h5,if_neg h5]
theorem zPe{p:zJ}{xs xb:Int}{n L M:Nat}{o:Value}{w:World}{B:Nat}(hL:L<2)(h:yO w B (yJ p xs xb n L M o))(hN:¬Nil (qq p xs xb n L) (yR p xs xb n L)) :
  yO (w.setCells B (2+L*16) (qE (p.s (qq p xs xb n L).toNat)).toList) B (yJ p xs xb n (L+1) M o):=by
 have aA:(qE (p.s (qq p xs xb n L).toNat)).toList.length=16:=by simp[qE,qB]
 refine(h.puts (2+L*16) _ (by omega)).congr fun i hi=>?_
 show(if 2+L*16<=i/\i<2+L*16+_ then _ else _)=_;rw[aA];by_cases h1:2+L*16<=i/\i<2+L*16+16
 ·rw[if_pos h1];have hj:i - (2+L*16)<16:=(by omega);have e:(qE (p.s (qq p xs xb n L).toNat)).toList.getD (i - (2+L*16)) undef = .int .i64 (zk (p.s (qq p xs xb n L).toNat) (i - (2+L*16))):=by
   rw[List.getD_eq_getElem?_getD,Array.getElem?_toList];have:=yQ (zk (p.s (qq p xs xb n L).toNat)) hj;rw[show qE (p.s (qq p xs xb n L).toNat)=zp (zk (p.s (qq p xs xb n L).toNat))from rfl,this];rfl
  rw[e];unfold yJ zB8;rw[if_neg (by omega),if_pos (by omega),show(i - 2) / 16=L by omega,if_pos (by omega),if_neg hN,show(i - 2) % 16=i - (2+L*16)by omega]
 ·rw[if_neg h1];unfold yJ;by_cases h3:i<2
  ·rw[if_pos h3,if_pos h3]
  rw[if_neg h3,if_neg h3];by_cases h4:i<34
  ·rw[if_pos h4,if_pos h4];by_cases h6:(i - 2) / 16<L
   ·rw[if_pos h6,if_pos (by omega)]
   ·rw[if_neg h6,if_neg (by omega)]
  ·rw[if_neg h4,if_neg h4]
theorem zNJ{p:zJ}{xs xb:Int}{n L:Nat}{o:Value}{w:World}{B:Nat}(hL:L<3)(h:yO w B (yJ p xs xb n L (L+1) o))(hN:L<2->Nil (qq p xs xb n L) (yR p xs xb n L)):yO w B (yJ p xs xb n 2 3 o):=by
 refine h.congr fun i hi=>?_
 have hz:∀K,L<=K->K<3->L<2->Nil (qq p xs xb n K) (yR p xs xb n K):=fun K h1 h2 h3=>by
  have n0:=hN h3;by_cases e:K=L
  ·subst e;exact n0
  have n1:=zEn n0 h3;by_cases e1:K=L+1
  ·subst e1;exact n1
  have n2:=zEn n1 (by omega);rw[show K=L+1+1 by omega];exact n2
 unfold yJ;by_cases h3:i<2
 ·rw[if_pos h3,if_pos h3]
 rw[if_neg h3,if_neg h3];by_cases h4:i<34
 ·rw[if_pos h4,if_pos h4];by_cases h6:(i - 2) / 16<L
  ·rw[if_pos h6,if_pos (by omega)]
  ·rw[if_neg h6,if_pos (by omega)];unfold zB8;rw[if_pos (hz _ (by omega) (by omega) (by omega))]
 ·rw[if_neg h4,if_neg h4];by_cases h5:i<40
  ·rw[if_pos h5,if_pos h5];by_cases h6:(i - 34) / 2<L+1
   ·rw[if_pos h6,if_pos (show(i - 34) / 2<3 by omega)]
   ·rw[if_neg h6,if_pos (show(i - 34) / 2<3 by omega)];have:=hz ((i - 34) / 2) (by omega) (by omega) (by omega);split
    ·rw[this.1]
    ·rw[this.2]
  ·rw[if_neg h5,if_neg h5]
theorem zQL{p:zJ}{xs xb:Int}{n K M:Nat}{o:Value}{w:World}{B:Nat}(o':Value)(h:yO w B (yJ p xs xb n K M o)):yO (w.setCell ⟨B,40,none⟩ o') B (yJ p xs xb n K M o'):=by
 refine(h.put _ _).congr fun i hi=>?_
 show(if i=40 then _ else _)=_;by_cases e:i=40
 ·subst e;rfl
 ·rw[if_neg e];unfold yJ;by_cases h3:i<2
  ·rw[if_pos h3,if_pos h3]
  rw[if_neg h3,if_neg h3];by_cases h4:i<34
  ·rw[if_pos h4,if_pos h4]
  ·rw[if_neg h4,if_neg h4,if_pos (show i<40 by omega),if_pos (show i<40 by omega)]
def qf(p:zJ)(xs xb:Int)(n k:Nat):List (Int×Int):=kidsUp (fun i=>qq p xs xb n (2 - i)) (fun i=>yR p xs xb n (2 - i)) k
theorem zOD{gA:Array Oper}{o:Oper}{a:Act}{w:World}{K:Act->World->Prop}{Q:Exit->Act->World->Prop}{E:Prop}(jA:o.guard=none)(s x:Operand)
  (ho:o.op = .call {callee:=.builtin .append,args:=#[s,x],argTypes:=#[62,62]}) (base bA:Nat) (v:Value) (l:List (Int×Int)) (hs:a.eval s=v) (aA:zw w base v l)
  (ao:Option Addr) (m c:Nat) (l2:List (Int×Int)) (hx:a.eval x = .slice ao m c) (hm:m=l2.length) (h2:zw w bA (.slice ao m c) l2) (iA:l.length+l2.length<=1000) (cA:base<=w.heap.size)
  (h:∀v' w',zw w' base v' (l ++ l2)->w.grownBy w' v.ownBlock->K (a.put o.dst v') w'):if Region.wanted o (yielded gA a.tmps)=true then Oper.wp Tryz.prog o a w K Q else E:=by
 have hw:Region.wanted o (yielded gA a.tmps)=true:=by simp[Region.wanted,jA]
 rw[if_pos hw];obtain⟨i0,eA,lA,nA,kA⟩:∃i,Tryz.prog.info? 61=some i/\i.zero=some (.agg #[.int .i64 0,.int .i64 0])/\i.size=2/\i.bytes=16:=by
  obtain⟨i0,eA,fA⟩:=Option.map_eq_some_iff.1 zAz;simp only[Prod.mk.injEq]at fA;exact⟨i0,eA,fA⟩
 have ht:Tryz.prog.underlying 62=some (.slice 61):=by kernel_rfl
 by_cases h0:0<l2.length
 ·obtain⟨b,oA,e,_,_,_,dA⟩:=qe h2 h0;simp only[Value.slice.injEq]at e;obtain⟨rfl,_,_⟩:=e;obtain⟨v',w',hr,r1,r2,_⟩:=run_append_own (P:=Tryz.prog) w base 62 o.type 61 i0 (.agg #[.int .i64 0,.int .i64 0]) 2 16 ht eA lA nA kA rfl (by decide) v l.length (pcl l) aA ⟨b,0,none⟩ m c (pcl l2) (by rw[zA3,hm]) (fun j u hj=>by rw[add_lit,Nat.zero_add];exact(dA j u hj).1) (zF7 l2) (by rw[hm];unfold maxLen;omega) (by rw[hm];omega) cA;unfold Oper.wp;simp[execOp,ho,resolve,invoke,builtin,hs,hx,hr,Result.andThen];refine h v' w' ?_ r2;unfold zw;rw[zBE,List.length_append,<-hm];exact r1
 ·have e0:l2 = []:=List.eq_nil_of_length_eq_zero (by omega);subst e0;have mA:m=0:=hm;subst mA;have hr:=zA5 (P:=Tryz.prog) (w:=w) base 62 o.type 61 i0 2 c ao ht eA v l.length (pcl l) aA;unfold Oper.wp;simp[execOp,ho,resolve,invoke,builtin,hs,hx,hr,Result.andThen];exact h v w (by rw[List.append_nil];exact aA) ⟨rfl,rfl,rfl,Nat.le_refl _,fun _ _ _=>rfl⟩
end Go.Proofs.YtmgeglgboadfiaaGreatDoor
