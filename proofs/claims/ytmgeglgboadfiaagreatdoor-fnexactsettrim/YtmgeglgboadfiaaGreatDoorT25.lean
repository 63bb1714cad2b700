/- What impl.withSlot leaves. -/
import Derived.Test.YtmgeglgboadfiaaGreatDoorT24
set_option linter.unusedVariables false
set_option maxRecDepth 20000
set_option maxHeartbeats 4000000
namespace Go.Proofs.YtmgeglgboadfiaaGreatDoor
open Go.RowKit
theorem qT.zRO{w:World}{lo hi lo' hi':Nat}{v:Value}{n:Nat}{f:Nat->Int}(h:qT w lo hi v n f)(h1:lo'<=lo)(h2:hi<=hi'):qT w lo' hi' v n f:=by
  obtain⟨h0,a,cap,hv,hcc,hc⟩:=h;refine⟨h0,a,cap,hv,hcc,fun hn=>?_⟩;obtain⟨b,off,ha,g1,g2,g3⟩:=hc hn;exact⟨b,off,ha,by omega,by omega,g3⟩
theorem zR.zRO{w:World}{lo hi lo' hi':Nat}{v:Value}{n:Nat}{f g:Nat->Int}(h:zR w lo hi v n f g)(h1:lo'<=lo)(h2:hi<=hi'):zR w lo' hi' v n f g:=by
  obtain⟨h0,a,cap,hv,hcc,hc⟩:=h;refine⟨h0,a,cap,hv,hcc,fun hn=>?_⟩;obtain⟨b,off,ha,g1,g2,g3⟩:=hc hn;exact⟨b,off,ha,by omega,by omega,g3⟩
theorem zR.all{w:World}{lo hi:Nat}{v:Value}{n:Nat}{f g:Nat->Int}(h:zR w lo hi v n f g):zR w 0 w.heap.size v n f g:=by
  obtain⟨h0,a,cap,hv,hcc,hc⟩:=h;refine⟨h0,a,cap,hv,hcc,fun hn=>?_⟩;obtain⟨b,off,ha,g1,g2,g3⟩:=hc hn;exact⟨b,off,ha,Nat.zero_le _,zD(g3 0 hn).1,g3⟩
theorem qI.all{w:World}{lo hi:Nat}{v0 v1 v2:Value}{s:zL}(h:qI w lo hi v0 v1 v2 s):qI w 0 w.heap.size v0 v1 v2 s:=⟨h.1,h.2.1.all,h.2.2⟩
theorem qT.all{w:World}{lo hi:Nat}{v:Value}{n:Nat}{f:Nat->Int}(h:qT w lo hi v n f):qT w 0 w.heap.size v n f:=by
  obtain⟨h0,a,cap,hv,hcc,hc⟩:=h;refine⟨h0,a,cap,hv,hcc,fun hn=>?_⟩;obtain⟨b,off,ha,g1,g2,g3⟩:=hc hn;exact⟨b,off,ha,Nat.zero_le _,zD(g3 0 hn),g3⟩
theorem zJj{f g:Nat->zL}{kv aA:Nat->Value}{k:Nat}(h:∀i,i<k->f i=g i/\kv i=aA i):sc f kv k=sc g aA k:=by
  induction k with
  |zero=>rfl
  |succ k ih=>
    unfold sc;rw [ih(fun i hi=>h i(by omega)),(h k(by omega)).1,(h k(by omega)).2]
theorem zGH(f:Nat->zL)(kv:Nat->Value)(k m:Nat):sc f kv(k+m)=sc f kv k ++ sc(fun i=>f(k+i))(fun i=>kv(k+i)) m:=by
  induction m with
  |zero=>simp [sc]
  |succ m ih=>
    show sc f kv(k+m) ++ [.int .i64(f(k+m)).zRU,kv(k+m),.string(f(k+m)).data]=sc f kv k ++ (sc(fun i=>f(k+i))(fun i=>kv(k+i)) m ++ [.int .i64(f(k+m)).zRU,kv(k+m),.string(f(k+m)).data]);rw [ih,List.append_assoc]
theorem zOU{f:Nat->zL}{kv:Nat->Value}{k n j:Nat}{u:Value}(h:k<=n)(hj:(sc f kv k)[j]?=some u):(sc f kv n)[j]?=some u:=by
  obtain⟨m,rfl⟩:=Nat.exists_eq_add_of_le h;have aA:=(List.getElem?_eq_some_iff.1 hj).1;rw [zGH,List.getElem?_append_left aA];exact hj
theorem zOJ{f:Nat->zL}{kv:Nat->Value}{k m j:Nat}{u:Value}(hj:(sc(fun i=>f(k+i))(fun i=>kv(k+i)) m)[j]?=some u):(sc f kv(k+m))[k*3+j]?=some u:=by
  rw [zGH,List.getElem?_append_right(by rw [zDT];omega),zDT];rw [show k*3+j - k*3=j by omega];exact hj
theorem zHm(f:Nat->zL)(i:Nat)(s:zL):∀n,yr(fun j=>if j=i then s else f j) n<=yr f n+(if i<n then zAY s else 0)
  |0=>Nat.zero_le _
  |n+1=>by
    have ih:=zHm f i s n;show yr(fun j=>if j=i then s else f j) n+zAY(if n=i then s else f n)<=yr f n+zAY(f n)+_;by_cases e:n=i
    · rw [if_pos e,if_pos(by omega)]
      rw [if_neg(by omega)] at ih;omega
    · rw [if_neg e]
      by_cases e2:i<n
      · rw [if_pos e2] at ih
        rw [if_pos(by omega)];omega
      · rw [if_neg e2] at ih
        rw [if_neg(by omega)];omega
theorem zJh(p:zJ)(i:Nat)(s:zL):qE(qm p i s)<=qE p+zAY s:=by
  have h:=zHm p.s i s p.n;have h2:(if i<p.n then zAY s else 0)<=zAY s:=(by split<;>omega);show p.n+yr(fun j=>if j=i then s else p.s j) p.n+p.hn<=p.n+yr p.s p.n+p.hn+zAY s;omega
theorem zQi{p:zJ}{s:zL}{cv:Nat->Value}{kv:Value}{aA:Nat}(h:aA<p.n) :
    sc p.s cv aA ++ [.int .i64 s.zRU,kv,.string s.data] ++ sc(fun i=>p.s(aA+1+i))(fun i=>cv(aA+1+i))(p.n - (aA+1))=sc(qm p aA s).s(fun j=>if j=aA then kv else cv j) p.n:=by
  have e:=zGH(qm p aA s).s(fun j=>if j=aA then kv else cv j)(aA+1)(p.n - (aA+1));rw [show aA+1+(p.n - (aA+1))=p.n by omega] at e;rw [e];congr 1
  · show _=sc(qm p aA s).s(fun j=>if j=aA then kv else cv j)aA ++ [.int .i64((qm p aA s).s aA).zRU,(if aA=aA then kv else cv aA),.string((qm p aA s).s aA).data]
    rw [show(qm p aA s).s aA=s from if_pos rfl,if_pos rfl];congr 1;exact zJj fun i hi=>⟨(if_neg(by omega:¬i=aA)).symm,(if_neg(by omega:¬i=aA)).symm⟩
  · exact zJj fun i hi=>⟨(if_neg(by omega:¬aA+1+i=aA)).symm,(if_neg(by omega:¬aA+1+i=aA)).symm⟩
theorem zNC{w:World}{base e n:Nat}{f:Nat->zL}{cv:Nat->Value}{v:Value}(hm:n<=maxLen)(h:w.ownsRow base e 3 v n(sc f cv n))(hs:∀i,i<n->qI w 0 w.heap.size(.int .i64(f i).zRU)(cv i)(.string(f i).data)(f i)):qA w 0 w.heap.size v n f:=by
  by_cases h0:0<n
  · obtain⟨g,cap,rfl,hcp,hb,hlt,hcell⟩:=qf h h0
    refine⟨hm,_,cap,rfl,hcp,fun _=>⟨g,0,rfl,Nat.zero_le _,hlt,fun i hi=>⟨_,_,_,?_,?_,?_,hs i hi⟩⟩⟩
    · have:=(hcell(i*3+0) _(zD9 f cv n i 0 hi(by omega))).1;simpa using this
    · have:=(hcell(i*3+1) _(zD9 f cv n i 1 hi(by omega))).1;simpa using this
    · have:=(hcell(i*3+2) _(zD9 f cv n i 2 hi(by omega))).1;simpa using this
  · obtain⟨a,cap,rfl,hcp⟩:=zW h
    exact⟨hm,a,cap,rfl,hcp,fun h=>absurd h h0⟩
theorem zJy(v0 v1 kv:Value)(lo hi lo' hi' aA:Nat)(p:zJ)(s:zL)(w:World)(h1:zy w lo hi v0 v1 p)(h2:qI w lo' hi'(.int .i64 s.zRU) kv(.string s.data) s)(jB:aA<p.n)(hn:qE p+zAY s<=1048576) :
    Calls Tryz.prog 160 #[.agg #[v0,v1],.int .i64(aA:Int),.agg #[.int .i64 s.zRU,kv,.string s.data]] w(zHP(qm p aA s) w):=by
  have Hp:=zU h1;have Hs:=zU h2;have Hn:=zU hn;have vB:p.n<=1048576:=(by unfold qE at hn;omega);have oB:p.hn<=1048576:=(by unfold qE at hn;omega);obtain⟨a,c,a',c',rfl,rfl⟩:=h1.form;obtain⟨ka,kc,rfl⟩:=h2.form;have mc:p.n<=c:=(by obtain⟨⟨_,_,_,e,h,_⟩,_⟩:=h1;simp only [Value.slice.injEq,true_and] at e;omega);obtain⟨cv,hcv,hsrc⟩:=h1.1.values;obtain⟨b,off,rfl,hb1,hb2,hcell⟩:=hsrc(by omega);have rA:=zU hcv;have iA:=zU hcell;have aB:b<w.heap.size:=by
    have:=hcell 0 _(by have:=zD9 p.s cv p.n 0 0(by omega)(by omega);simpa using this);exact zD this
  obtain⟨i1,hi1,hzz1⟩:=Option.map_eq_some_iff.1 zEX;simp only [Prod.mk.injEq] at hzz1;have gA:=zU(And.intro hi1 hzz1);clear h1 h2 hn hcv hsrc hcell hi1 hzz1 hb1 hb2;have bB:=zC w(.cells #[.slice(some ⟨b,off,none⟩) p.n c,.slice a' p.hn c'] 33);have sA:=zA bB(zC _(.cells #[.int .i64 s.zRU,.slice ka s.kn kc,.string s.data] 127));have mA:=zA sA(zC _(.cells #[.slice none 0 0,.slice none 0 0] 33));have HB:=zU(((zc.zRL w(.slice(some ⟨b,off,none⟩) p.n c)(.slice a' p.hn c') 33).zRJ(zC _(.cells #[.int .i64 s.zRU,.slice ka s.kn kc,.string s.data] 127))).zRJ(zC _(.cells #[.slice none 0 0,.slice none 0 0] 33)));have oA:=(yT.zRL(w.alloc(.cells #[.slice(some ⟨b,off,none⟩) p.n c,.slice a' p.hn c'] 33))(.int .i64 s.zRU)(.slice ka s.kn kc)(.string s.data) 127).zRJ(zC _(.cells #[.slice none 0 0,.slice none 0 0] 33));rw [World.size_alloc] at oA;have HS:=zU oA;have nA:=zc.zRL((w.alloc(.cells #[.slice(some ⟨b,off,none⟩) p.n c,.slice a' p.hn c'] 33)).alloc(.cells #[.int .i64 s.zRU,.slice ka s.kn kc,.string s.data] 127))(.slice none 0 0)(.slice none 0 0) 33;rw [World.size_alloc,World.size_alloc] at nA;have HR:=zU nA;clear bB sA oA nA;go_enter Tryz.func160,Tryz.ntmps160;go_wp2_with fail;generalize hW:((w.alloc(.cells #[.slice(some ⟨b,off,none⟩) p.n c,.slice a' p.hn c'] 33)).alloc(.cells #[.int .i64 s.zRU,.slice ka s.kn kc,.string s.data] 127)).alloc(.cells #[.slice none 0 0,.slice none 0 0] 33)=W at HB HS HR mA ⊢;have hz:W.heap.size=w.heap.size+3:=(by rw [<-hW,World.size_alloc,World.size_alloc,World.size_alloc]);clear hW;obtain⟨⟨x0,x1⟩,⟨x2,x3⟩⟩:=HB.out;obtain⟨⟨y0,y1⟩,⟨y2,y3⟩,⟨y4,y5⟩⟩:=HS.out;have gB:(aA:Int)<=(c:Int):=(by omega);have n0:W.heap.size≠w.heap.size:=(by omega);have n1:W.heap.size≠w.heap.size+1:=(by omega);go_region_held3(fun w'=>w'.cell? ⟨w.heap.size,0,none⟩=some(.slice(some ⟨b,off,none⟩) p.n c)/\w'.cell? ⟨w.heap.size+1,0,none⟩=some(.int .i64 s.zRU)/\w'.cell? ⟨w.heap.size+1,1,none⟩=some(.slice ka s.kn kc)/\w'.cell? ⟨w.heap.size+1,2,none⟩=some(.string s.data))(go_keep)
    (first
      |(refine step_append_grows rfl(.tmp 12)(.tmp 14) 31 rfl 127 i1(.agg #[.int .i64 0,.slice none 0 0,.string ⟨#[]⟩]) 3 48(by kernel_rfl) gA.out.1 gA.out.2.1 gA.out.2.2.1 gA.out.2.2.2 rfl(by decide)(some ⟨b,off,none⟩)aA aA(sc p.s cv aA)(by simp [Act.eval])(fun e=>by cases e)(zDT _ _ _) ?_ ⟨W.heap.size,0,none⟩ 1 1 [.int .i64 s.zRU,.slice ka s.kn kc,.string s.data](by simp [Act.eval]) rfl ?_(zQz _ _ _ _ _)(by omega)(by unfold maxLen;omega)(by omega) ?_
         exact fun b1 e j u hj=>by
           simp only [Option.some.injEq] at e;subst e;rw [add_lit];exact((zA mA(zC W _)).drew.cell(p:=⟨b,off+j,none⟩) aB).trans(iA.out j u(zOU(by omega) hj))
         exact zQS W _ _ _ _;intro v4 w4 dA cA;obtain⟨g4,c4,rfl,_⟩:=dA.form(by omega);have jA:Below W.heap.size W w4:=zA(zC W _)(zK(zCU cA));have fA:=zU(zER(B:=W.heap.size) dA(by simp));obtain⟨⟨p0,p1⟩,⟨p2,p3⟩⟩:=HB.out.zRJ jA;obtain⟨⟨p4,p5⟩,⟨p6,p7⟩,⟨p8,p9⟩⟩:=HS.out.zRJ jA;clear dA cA))
  have kB:=zA mA jA;have mB:(aA:Int)+1<=(p.n:Int):=(by omega);have iB:=jA.size;clear x0 x1 x2 x3 y0 y1 y2 y3 y4 y5 p4 p5 p6 p7 p8 p9 HS;have dB:Hid(∀j u,(sc(fun i=>p.s(aA+1+i))(fun i=>cv(aA+1+i))(p.n - (aA+1)))[j]?=some u->w4.cell?((⟨b,off+(aA+1)*3,none⟩:Addr).add j)=some u):=fun j u hj=>by
    have e:=zOJ(f:=p.s)(kv:=cv) hj;rw [show aA+1+(p.n - (aA+1))=p.n by omega] at e;rw [add_lit,show off+(aA+1)*3+j=off+((aA+1)*3+j)by omega];exact(kB.cell(p:=⟨b,off+((aA+1)*3+j),none⟩) aB).trans(iA.out _ u e)
  have sB:Hid(c=aA+1->∀j u,(sc(fun i=>p.s(aA+1+i))(fun i=>cv(aA+1+i))(p.n - (aA+1)))[j]?=some u->w4.cell?((⟨b,off,none⟩:Addr).add j)=some u):=fun pB j u hj=>by
    rw [show p.n - (aA+1)=0 by omega] at hj;simp [sc] at hj
  have pA:Hid(∀u∈sc(fun i=>p.s(aA+1+i))(fun i=>cv(aA+1+i))(p.n - (aA+1)),u.oneCell'=true):=zPE _ _ _(fun i hi=>by obtain⟨rB,kc',e⟩:=(rA.out(aA+1+i)(by omega)).form;rw [e];rfl);go_wp2_with(first
    |(at_builtin;refine qJ rfl _ _ 31 rfl W.heap.size 127 i1(.agg #[.int .i64 0,.slice none 0 0,.string ⟨#[]⟩]) 3 48(by kernel_rfl) gA.out.1 gA.out.2.1 gA.out.2.2.1 gA.out.2.2.2 rfl(by decide)(.slice(some ⟨g4,0,none⟩)(aA+1) c4)(aA+1) _ rfl fA.out _(p.n - (aA+1)) _(sc(fun i=>p.s(aA+1+i))(fun i=>cv(aA+1+i))(p.n - (aA+1))) rfl(zDT _ _ _) pA.out(by intro hm;exact⟨b,off+(aA+1)*3,(by first | rw [if_neg(by omega)] | rfl | simp),fun j u hj=>by have hq:=dB.out j u hj;rw [add_lit] at hq;exact hq⟩) ?c3 ?c4 ?c5 ?_))
  case c3=>unfold maxLen;omega
  case c4=>omega
  case c5=>omega
  all_goals
    intro v5 w5 bA eA _;have hl:=zQi(s:=s)(cv:=cv)(kv:=.slice ka s.kn kc) jB;simp only [List.append_assoc,List.cons_append,List.nil_append] at hl bA;rw [show aA+1+(p.n - (aA+1))=p.n by omega,hl] at bA;clear hl;obtain⟨g5,c5,rfl,_⟩:=bA.form(by omega);have kA:Below W.heap.size W w5:=jA.grown eA iB(fun k hk=>(fA.out.lt k hk).1);have lA:=zA mA kA;have fB:Hid(zy w5 0 w5.heap.size(.slice(some ⟨g5,0,none⟩) p.n c5)(.slice a' p.hn c')(qm p aA s)):=by
      refine⟨zNC(by show p.n<=maxLen;unfold maxLen;omega) bA(fun i hi=>?_),(Hp.out.2.zRJ lA).all⟩;by_cases e:i=aA
      · subst e
        rw [show(qm p i s).s i=s from if_pos rfl];simp only [if_true];exact(Hs.out.zRJ lA).all
      · rw [show(qm p aA s).s i=p.s i from if_neg e]
        simp only [if_neg e];exact((rA.out i hi).zRJ lA).all
    have lB:=zU(HR.out.zRJ kA);have tB:w.heap.size+3<=w5.heap.size:=(by have:=kA.size;omega);clear bA eA p0 p1 p2 p3;obtain⟨⟨p0,p1⟩,⟨p2,p3⟩⟩:=HB.out.zRJ kA;go_wp2_with fail;refine(zBw _ _ 0 w5.heap.size(qm p aA s) _ fB.out(by have:=zJh p aA s;have:=Hn.out;omega)).mono ?_;rintro e w6 ⟨s0,s1,rfl,ho6,hb6⟩;obtain⟨a6,c6,a7,c7,rfl,rfl⟩:=ho6.form;have tA:=zU(lB.out.zRJ hb6);have eB:=zU ho6;have nB:=zA lA hb6;clear ho6 hb6 p0 p1 p2 p3;obtain⟨⟨u0,u1⟩,⟨u2,u3⟩⟩:=tA.out;go_wp2;have cB:=tA.out.put(.slice a6(qm p aA s).n c6)(.slice a7(qm p aA s).hn c7);have vA:=zPP(R:=w.heap.size+1+1) eB.out(by omega)(by omega)(Nat.le_refl _) nB;exact bodyPost_ret(v:=.agg #[.slice a6(qm p aA s).n c6,.slice a7(qm p aA s).hn c7])(by simp [results,Tryz.results160,go_sem,cB.1.1,cB.2.1]) rfl ⟨_,_,rfl,vA.1,vA.2⟩
theorem zP1(w:World)(a0 a1 x0 x1 x2:Value)(t1 t2 t3:TypeId) :
  zc(((w.alloc(.cells #[a0,a1] t1)).alloc(.cells #[x0,x1,x2] t2)).alloc(.cells #[.slice none 0 0,.slice none 0 0,.int .i64 0,.int .i64 0,.int .i64 0] t3)) w.heap.size a0 a1/\
  yT(((w.alloc(.cells #[a0,a1] t1)).alloc(.cells #[x0,x1,x2] t2)).alloc(.cells #[.slice none 0 0,.slice none 0 0,.int .i64 0,.int .i64 0,.int .i64 0] t3))(w.heap.size+1) x0 x1 x2/\
  zFG(((w.alloc(.cells #[a0,a1] t1)).alloc(.cells #[x0,x1,x2] t2)).alloc(.cells #[.slice none 0 0,.slice none 0 0,.int .i64 0,.int .i64 0,.int .i64 0] t3))(w.heap.size+1+1)(.slice none 0 0)(.slice none 0 0)(.int .i64 0)(.int .i64 0)(.int .i64 0)/\
  Below w.heap.size w(((w.alloc(.cells #[a0,a1] t1)).alloc(.cells #[x0,x1,x2] t2)).alloc(.cells #[.slice none 0 0,.slice none 0 0,.int .i64 0,.int .i64 0,.int .i64 0] t3))/\
  (((w.alloc(.cells #[a0,a1] t1)).alloc(.cells #[x0,x1,x2] t2)).alloc(.cells #[.slice none 0 0,.slice none 0 0,.int .i64 0,.int .i64 0,.int .i64 0] t3)).heap.size=w.heap.size+3:=by
 refine⟨((zc.zRL w a0 a1 t1).zRJ(zC _ _)).zRJ(zC _ _),?_,?_,zA(zA(zC _ _)(zC _ _))(zC _ _),by simp⟩
 ·have:=(yT.zRL(w.alloc(.cells #[a0,a1] t1)) x0 x1 x2 t2).zRJ(zC _(.cells #[.slice none 0 0,.slice none 0 0,.int .i64 0,.int .i64 0,.int .i64 0] t3));rw [World.size_alloc] at this;exact this
 ·have:=zFG.zRL((w.alloc(.cells #[a0,a1] t1)).alloc(.cells #[x0,x1,x2] t2))(.slice none 0 0)(.slice none 0 0)(.int .i64 0)(.int .i64 0)(.int .i64 0) t3;rw [World.size_alloc,World.size_alloc] at this;exact this
theorem zGa(v0 v1 kv:Value)(lo hi lo' hi':Nat)(p:zJ)(s:zL)(w:World)(h1:zy w lo hi v0 v1 p)(h2:qI w lo' hi'(.int .i64 s.zRU) kv(.string s.data) s)(hn:qE p+zAY s<=1048576) :
  Calls Tryz.prog 100 #[.agg #[v0,v1],.agg #[.int .i64 s.zRU,kv,.string s.data]] w(zMi(zCt p s) w):=by
 have Hp:=zU h1;have Hs:=zU h2;have Hn:=zU hn;obtain⟨a,c,a',c',rfl,rfl⟩:=h1.form;obtain⟨ka,kc,rfl⟩:=h2.form;have nB:s.kn<=1048576:=by unfold zAY at hn;omega
 have mB:p.n<=1048576:=by unfold qE at hn;omega
 have dB:=zP1 w(.slice a p.n c)(.slice a' p.hn c')(.int .i64 s.zRU)(.slice ka s.kn kc)(.string s.data) 33 127 151;clear h1 h2 hn;go_enter Tryz.func100,Tryz.ntmps100;go_wp2_with fail;generalize((w.alloc(.cells #[.slice a p.n c,.slice a' p.hn c'] 33)).alloc(.cells #[.int .i64 s.zRU,.slice ka s.kn kc,.string s.data] 127)).alloc(.cells #[.slice none 0 0,.slice none 0 0,.int .i64 0,.int .i64 0,.int .i64 0] 151)=W at dB ⊢;obtain⟨hB,hX,hR,hba,hz⟩:=dB;refine(yz _ _ lo hi p _(Hp.out.zRJ hba)).mono ?_;rintro e w1 ⟨⟨t,rfl,ht⟩,hb1⟩;have aB:=zU(hB.zRJ hb1);have rA:=zU(hX.zRJ hb1);have pA:=zU(hR.zRJ hb1);have mA:=zA hba hb1;have eB:w.heap.size+3<=w1.heap.size:=by have:=hb1.size;omega
 clear hB hX hR hba hb1 hz;by_cases fA:zv p
 ·have oA:=zU fA;obtain rfl:t=true:=ht.2 fA;clear ht fA;obtain⟨⟨y0,y1⟩,⟨y2,y3⟩,⟨y4,y5⟩⟩:=rA.out;go_wp2_with fail;refine(zBf _ _ _ lo' hi' s _(Hs.out.zRJ mA)).mono ?_;rintro e w2 ⟨⟨t,rfl,ht⟩,hb2⟩;have tA:=zU(aB.out.zRJ hb2);have vA:=zU(rA.out.zRJ hb2);have nA:=zU(pA.out.zRJ hb2);have iA:=zA mA hb2;have kB:w.heap.size+3<=w2.heap.size:=(by have:=hb2.size;omega);clear hb2 mA aB rA pA eB y0 y1 y2 y3 y4 y5;by_cases hF:qG s
  ·have HF:=zU hF;obtain rfl:t=true:=ht.2 hF;clear ht hF;obtain⟨⟨u0,u1⟩,⟨u2,u3⟩,⟨u4,u5⟩,⟨u6,u7⟩,⟨u8,u9⟩⟩:=nA.out;go_wp2;have aA:=nA.out.put(.slice none 0 0)(.slice none 0 0)(.int .i64 0)(.int .i64 0)(.int .i64 1);have bA:=zCj(R:=w.heap.size+1+1)(u2:=.int .i64 0)(u3:=.int .i64 0)(u4:=.int .i64 1)(by omega) iA;rw [zGT(fun h=>h.2.1 HF.out)];exact bodyPost_ret(v:=.agg #[.slice none 0 0,.slice none 0 0,.int .i64 0,.int .i64 0,.int .i64 1])(by simp [results,Tryz.results100,go_sem,aA.1.1,aA.2.1.1,aA.2.2.1.1,aA.2.2.2.1.1,aA.2.2.2.2.1]) rfl ⟨_,_,rfl,bA.1,bA.2⟩
  ·have HF:=zU hF;obtain rfl:t=false:=zQ ht hF;clear ht hF;obtain⟨⟨x0,x1⟩,⟨x2,x3⟩⟩:=tA.out;obtain⟨⟨y0,y1⟩,⟨y2,y3⟩,⟨y4,y5⟩⟩:=vA.out;go_wp2_with fail;refine(zE4 _ _ _ _ p.n lo hi lo' hi' p.s s _(Hp.out.1.zRJ iA)(Hs.out.zRJ iA)).mono ?_;rintro e w3 ⟨⟨t,rfl,ht⟩,hb3⟩;rw [zIw oA.out HF.out] at ht;have lA:=zU(tA.out.zRJ hb3);have sA:=zU(vA.out.zRJ hb3);have dA:=zU(nA.out.zRJ hb3);have eA:=zA iA hb3;have gB:w.heap.size+3<=w3.heap.size:=(by have:=hb3.size;omega);clear hb3 iA tA vA nA kB x0 x1 x2 x3 y0 y1 y2 y3 y4 y5;by_cases hT:zAN p s
   ·have HT:=zU(And.intro oA.out(And.intro HF.out hT));obtain rfl:t=true:=ht.2 hT;clear ht hT;obtain⟨⟨x0,x1⟩,⟨x2,x3⟩⟩:=lA.out;go_wp2_with fail;refine(zIm _ p.n lo hi p.s _(Hp.out.1.zRJ eA)).mono ?_;rintro e w4 ⟨⟨i,hi4,rfl⟩ | ⟨hno,rfl⟩,hb4⟩
    ·have cB:=zU(lA.out.zRJ hb4);have bB:=zU(sA.out.zRJ hb4);have gA:=zU(dA.out.zRJ hb4);have kA:=zA eA hb4;have lB:w.heap.size+3<=w4.heap.size:=(by have:=hb4.size;omega);have Hi:=zU hi4;have oB:¬(i:Int)<0:=(by omega);clear hb4 lA sA dA eA x0 x1 x2 x3 gB hi4;obtain⟨⟨x0,x1⟩,⟨x2,x3⟩⟩:=cB.out;obtain⟨⟨y0,y1⟩,⟨y2,y3⟩,⟨y4,y5⟩⟩:=bB.out;obtain⟨⟨u0,u1⟩,⟨u2,u3⟩,⟨u4,u5⟩,⟨u6,u7⟩,⟨u8,u9⟩⟩:=gA.out;have n0:w.heap.size+1+1≠w.heap.size:=(by omega);have n1:w.heap.size+1+1≠w.heap.size+1:=(by omega);go_wp2_with fail;go_region_held3(fun w'=>w'.cell? ⟨w.heap.size,0,none⟩=some(.slice a p.n c)/\w'.cell? ⟨w.heap.size,1,none⟩=some(.slice a' p.hn c')/\w'.cell? ⟨w.heap.size+1,0,none⟩=some(.int .i64 s.zRU)/\w'.cell? ⟨w.heap.size+1,1,none⟩=some(.slice ka s.kn kc)/\w'.cell? ⟨w.heap.size+1,2,none⟩=some(.string s.data))(go_keep)
      (first
       |(go_at_call 160;refine(zJy _ _ _ lo hi lo' hi' i p s _ ?_ ?_ Hi.out.1 Hn.out).mono ?_;(exact Hp.out.zRJ kA.drew);(exact Hs.out.zRJ kA.drew);rintro e w5 ⟨s0,s1,rfl,ho5,hb5⟩;obtain⟨a5,c5,a6,c6,rfl,rfl⟩:=ho5.form;have cA:=zK hb5;obtain⟨⟨p0,p1⟩,⟨p2,p3⟩⟩:=cB.out.zRJ cA;obtain⟨⟨p4,p5⟩,⟨p6,p7⟩,⟨p8,p9⟩⟩:=bB.out.zRJ cA;obtain⟨⟨r0,r1⟩,⟨r2,r3⟩,⟨r4,r5⟩,⟨r6,r7⟩,⟨r8,r9⟩⟩:=gA.out.zRJ cA))
     have iB:Hid(zt w5 w4.heap.size w5.heap.size(.slice a5(qm p i s).n c5)(.slice a6(qm p i s).hn c6)(qm p i s)):=ho5;have jB:=zU(gA.out.zRJ cA);have fB:=zA kA cA;clear ho5 hb5 cA;go_wp2;have jA:=jB.out.put(.slice a5(qm p i s).n c5)(.slice a6(qm p i s).hn c6)(.int .i64(i:Int))(.int .i64 s.zRU)(.int .i64 0);have bA:=zHJ(R:=w.heap.size+1+1)(u2:=.int .i64(i:Int))(u3:=.int .i64 s.zRU)(u4:=.int .i64 0) iB.out(by omega)(by omega)(Nat.le_refl _) fB;rw [zJ2 HT.out Hi.out];exact bodyPost_ret(v:=.agg #[.slice a5(qm p i s).n c5,.slice a6(qm p i s).hn c6,.int .i64(i:Int),.int .i64 s.zRU,.int .i64 0])(by simp [results,Tryz.results100,go_sem,jA.1.1,jA.2.1.1,jA.2.2.1.1,jA.2.2.2.1.1,jA.2.2.2.2.1]) rfl ⟨_,_,rfl,bA.1,bA.2⟩
    ·have gA:=zU(dA.out.zRJ hb4);have kA:=zA eA hb4;clear hb4 lA sA dA eA x0 x1 x2 x3;obtain⟨⟨u0,u1⟩,⟨u2,u3⟩,⟨u4,u5⟩,⟨u6,u7⟩,⟨u8,u9⟩⟩:=gA.out;go_wp2;have aA:=gA.out.put(.slice none 0 0)(.slice none 0 0)(.int .i64 0)(.int .i64 0)(.int .i64 6);have bA:=zCj(R:=w.heap.size+1+1)(u2:=.int .i64 0)(u3:=.int .i64 0)(u4:=.int .i64 6)(by omega) kA;rw [zGn HT.out hno];exact bodyPost_ret(v:=.agg #[.slice none 0 0,.slice none 0 0,.int .i64 0,.int .i64 0,.int .i64 6])(by simp [results,Tryz.results100,go_sem,aA.1.1,aA.2.1.1,aA.2.2.1.1,aA.2.2.2.1.1,aA.2.2.2.2.1]) rfl ⟨_,_,rfl,bA.1,bA.2⟩
   ·have HT:=zU hT;obtain rfl:t=false:=zQ ht hT;clear ht hT;obtain⟨⟨u0,u1⟩,⟨u2,u3⟩,⟨u4,u5⟩,⟨u6,u7⟩,⟨u8,u9⟩⟩:=dA.out;go_wp2;have aA:=dA.out.put(.slice none 0 0)(.slice none 0 0)(.int .i64 0)(.int .i64 0)(.int .i64 1);have bA:=zCj(R:=w.heap.size+1+1)(u2:=.int .i64 0)(u3:=.int .i64 0)(u4:=.int .i64 1)(by omega) eA;rw [zGT(fun h=>HT.out h.2.2)];exact bodyPost_ret(v:=.agg #[.slice none 0 0,.slice none 0 0,.int .i64 0,.int .i64 0,.int .i64 1])(by simp [results,Tryz.results100,go_sem,aA.1.1,aA.2.1.1,aA.2.2.1.1,aA.2.2.2.1.1,aA.2.2.2.2.1]) rfl ⟨_,_,rfl,bA.1,bA.2⟩
 ·have oA:=zU fA;obtain rfl:t=false:=zQ ht fA;clear ht fA;obtain⟨⟨u0,u1⟩,⟨u2,u3⟩,⟨u4,u5⟩,⟨u6,u7⟩,⟨u8,u9⟩⟩:=pA.out;go_wp2;have aA:=pA.out.put(.slice none 0 0)(.slice none 0 0)(.int .i64 0)(.int .i64 0)(.int .i64 1);have bA:=zCj(R:=w.heap.size+1+1)(u2:=.int .i64 0)(u3:=.int .i64 0)(u4:=.int .i64 1)(by omega) mA;rw [zGT(fun h=>oA.out h.1)];exact bodyPost_ret(v:=.agg #[.slice none 0 0,.slice none 0 0,.int .i64 0,.int .i64 0,.int .i64 1])(by simp [results,Tryz.results100,go_sem,aA.1.1,aA.2.1.1,aA.2.2.1.1,aA.2.2.2.1.1,aA.2.2.2.2.1]) rfl ⟨_,_,rfl,bA.1,bA.2⟩
def mix(f g:Nat->Int)(j:Nat):Int:=if j % 2=0 then f(j / 2)else g(j / 2)
theorem zGD(f g:Nat->Int)(i:Nat):mix f g(i*2)=f i/\mix f g(i*2+1)=g i:=by
 unfold mix;rw [if_pos(by omega),if_neg(by omega),show i*2 / 2=i by omega,show(i*2+1) / 2=i by omega];exact⟨rfl,rfl⟩
def yJ(f g:Nat->Int):Prop:=∀i,i<8->Nil(f i)(g i)
theorem zLz(f g:Nat->Int):zGg(mix f g)(fun _=>0)=true↔yJ f g:=by
 rw [zHy];constructor
 ·intro h i hi;have:=h i hi;rw [(zGD f g i).1,(zGD f g i).2] at this;exact this
 ·intro h i hi;rw [(zGD f g i).1,(zGD f g i).2];exact h i hi
def qY(f g:Nat->Int)(b:Int):zL:={zRU:=b,kn:=8,ks:=f,kb:=g,data:=⟨#[]⟩}
open Classical in
noncomputable def zEz(p:zJ)(f g:Nat->Int)(b:Int):zDe:=if yJ f g then⟨p,0,0,0⟩else zCt p(qY f g b)
theorem zP4(w:World)(a0 a1:Value)(cs:Array Value)(t1 t2 t3:TypeId) :
  zc(((w.alloc(.cells #[a0,a1] t1)).alloc(.cells cs t2)).alloc(.cells #[.slice none 0 0,.slice none 0 0,.int .i64 0,.int .i64 0,.int .i64 0] t3)) w.heap.size a0 a1/\
  (((w.alloc(.cells #[a0,a1] t1)).alloc(.cells cs t2)).alloc(.cells #[.slice none 0 0,.slice none 0 0,.int .i64 0,.int .i64 0,.int .i64 0] t3)).heap[w.heap.size+1]?=some(.cells cs t2(0,0))/\
  zFG(((w.alloc(.cells #[a0,a1] t1)).alloc(.cells cs t2)).alloc(.cells #[.slice none 0 0,.slice none 0 0,.int .i64 0,.int .i64 0,.int .i64 0] t3))(w.heap.size+1+1)(.slice none 0 0)(.slice none 0 0)(.int .i64 0)(.int .i64 0)(.int .i64 0)/\
  Below w.heap.size w(((w.alloc(.cells #[a0,a1] t1)).alloc(.cells cs t2)).alloc(.cells #[.slice none 0 0,.slice none 0 0,.int .i64 0,.int .i64 0,.int .i64 0] t3))/\
  (((w.alloc(.cells #[a0,a1] t1)).alloc(.cells cs t2)).alloc(.cells #[.slice none 0 0,.slice none 0 0,.int .i64 0,.int .i64 0,.int .i64 0] t3)).heap.size=w.heap.size+3:=by
 refine⟨((zc.zRL w a0 a1 t1).zRJ(zC _ _)).zRJ(zC _ _),?_,?_,zA(zA(zC _ _)(zC _ _))(zC _ _),by simp⟩
 ·exact(zG7 w(.cells #[a0,a1] t1)(.cells cs t2) _).1
 ·have:=zFG.zRL((w.alloc(.cells #[a0,a1] t1)).alloc(.cells cs t2))(.slice none 0 0)(.slice none 0 0)(.int .i64 0)(.int .i64 0)(.int .i64 0) t3;rw [World.size_alloc,World.size_alloc] at this;exact this
theorem zKo(v0 v1:Value)(lo hi:Nat)(p:zJ)(f g:Nat->Int)(b:Int)(w:World)(h1:zy w lo hi v0 v1 p)(hn:qE p+8<=1048576) :
  Calls Tryz.prog 161 #[.agg #[v0,v1],.agg(zp(mix f g)),.int .i64 b] w(zMi(zEz p f g b) w):=by
 have Hp:=zE h1;obtain⟨a,c,a',c',rfl,rfl⟩:=h1.form;have Hn:=zE hn;clear h1 hn;have rA:=zP4 w(.slice a p.n c)(.slice a' p.hn c')(zp(mix f g)) 33 155 151;have eA:Hid((Tryz.prog.info? 155).map(·.size)=some(zp(mix f g)).size):=by
  show _=_;rw [qB];exact zBv
 have cB:∀w,(binOp .eql 155(.agg(zp(mix f g)))(.agg #[Value.int .i64 0,Value.int .i64 0,Value.int .i64 0,Value.int .i64 0,Value.int .i64 0,Value.int .i64 0,Value.int .i64 0,Value.int .i64 0,Value.int .i64 0,Value.int .i64 0,Value.int .i64 0,Value.int .i64 0,Value.int .i64 0,Value.int .i64 0,Value.int .i64 0,Value.int .i64 0])).run Tryz.prog w = .ok(.bool(zGg(mix f g)(fun _=>0))) w:=fun w=>zJs(mix f g)(fun _=>0) w
 go_enter Tryz.func161,Tryz.ntmps161;go_upto_region 1 with fail;generalize((w.alloc(.cells #[.slice a p.n c,.slice a' p.hn c'] 33)).alloc(.cells(zp(mix f g)) 155)).alloc(.cells #[.slice none 0 0,.slice none 0 0,.int .i64 0,.int .i64 0,.int .i64 0] 151)=W at rA ⊢;obtain⟨hB,hA,hR,hba,hz⟩:=rA;have HA:=zE hA;have HB:=zE hB;have HR:=zE hR;clear hA hR;obtain⟨⟨x0,x1⟩,⟨x2,x3⟩⟩:=HB.out;by_cases hN:yJ f g
 ·have HN:=zE hN;have dB:=(zLz f g).2 hN;clear hN;go_wp2_with(first
   |(refine wpList_load_row rfl 155(.tmp 4) rfl(w.heap.size+1) rfl 155(zp(mix f g))(0,0) _ HA.out zG9 rfl eA.out ?_)
   |fail)
  refine(zBw _ _ lo hi p W(Hp.out.zRJ hba)(by have:=Hn.out;omega)).mono ?_;rintro e w1 ⟨s0,s1,rfl,ho1,hb1⟩;obtain⟨a1,c1,a2,c2,rfl,rfl⟩:=ho1.form;have tA:=zE ho1;have sA:=zE(HR.out.zRJ hb1);have vA:=zA hba hb1;have fB:=hb1.size;clear ho1 hb1 hba x0 x1 x2 x3 hB;obtain⟨⟨u0,u1⟩,⟨u2,u3⟩,⟨u4,u5⟩,⟨u6,u7⟩,⟨u8,u9⟩⟩:=sA.out;go_wp2;have aA:=sA.out.put(.slice a1 p.n c1)(.slice a2 p.hn c2)(.int .i64 0)(.int .i64 0)(.int .i64 0);have dA:=zHJ(R:=w.heap.size+1+1)(u2:=.int .i64 0)(u3:=.int .i64 0)(u4:=.int .i64 0) tA.out(by omega)(by omega)(Nat.le_refl _) vA;rw [show zEz p f g b=⟨p,0,0,0⟩from if_pos HN.out];exact bodyPost_ret(v:=.agg #[.slice a1 p.n c1,.slice a2 p.hn c2,.int .i64 0,.int .i64 0,.int .i64 0])(by simp [results,Tryz.results161,go_sem,aA.1.1,aA.2.1.1,aA.2.2.1.1,aA.2.2.2.1.1,aA.2.2.2.2.1]) rfl ⟨_,_,rfl,dA.1,dA.2⟩
 ·have HN:=zE hN;have dB:zGg(mix f g)(fun _=>0)=false:=Bool.eq_false_iff.2(fun h=>hN((zLz f g).1 h));clear hN;have pA:=zBC 62 61(.agg #[.int .i64 0,.int .i64 0]) 2 16(by kernel_rfl) zKj rfl 8(by omega)(by omega);have bB:∀w,(Instr.makeSlice 62(.int .i64 8)(.int .i64 8)).run Tryz.prog w = .ok(.slice(some ⟨w.heap.size,0,none⟩) 8 8)(w.alloc(.cells(zA0 #[.int .i64 0,.int .i64 0] 8) 61)):=pA;clear pA;have nA:=zC W(.cells(zA0 #[.int .i64 0,.int .i64 0] 8) 61);have oA:=zC W(.cells(zp(mix f g)) 61);have gA:=zE oA;have lA:(W.alloc(.cells(zA0 #[.int .i64 0,.int .i64 0] 8) 61)).heap[w.heap.size+1]?=some(.cells(zp(mix f g)) 155(0,0)):=(nA.block _(by omega)).trans HA.out;have fA:Hid(∀ty,(Builtin.copy_ #[62,62] ty #[.slice(some ⟨W.heap.size,0,none⟩) 8 8,.slice(some ⟨w.heap.size+1,0,none⟩) 8 8]).run Tryz.prog(W.alloc(.cells(zA0 #[.int .i64 0,.int .i64 0] 8) 61)) = .ok(goInt 8)(W.alloc(.cells(zp(mix f g)) 61))):=by
   intro ty;have kA:(zA0 #[.int .i64 0,.int .i64 0] 8).size=16:=(by kernel_rfl);have hr:=zD3(P:=Tryz.prog)(W.alloc(.cells(zA0 #[.int .i64 0,.int .i64 0] 8) 61)) 62 62 ty 61 2 W.heap.size 0 8 8 ⟨w.heap.size+1,0,none⟩ 8 8(zA0 #[.int .i64 0,.int .i64 0] 8) 61(zp(mix f g)).toList(by kernel_rfl) zEP(heap_alloc_last _ _)(by simp [zp])(fun j v hj=>by
     have cA:j<16:=by
      have:=(List.getElem?_eq_some_iff.1 hj).1;simpa [qB] using this
     have e:(zp(mix f g)).toList[j]?=some(.int .i64(mix f g j)):=(by rw [Array.getElem?_toList];exact yO(mix f g) cA);rw [e] at hj;simp only [Option.some.injEq] at hj;subst hj;rw [add_lit,Nat.zero_add];exact(zI lA(yO(mix f g) cA)).1)(by rw [kA];simp [zp])(fun v hv=>(Array.all_eq_true_iff_forall_mem.1(zAs _)) v(by simpa using hv))
   have e0:((zA0 #[.int .i64 0,.int .i64 0] 8).toList.drop 16) = []:=List.drop_eq_nil_of_le(by simp [kA]);have e1:((zA0 #[.int .i64 0,.int .i64 0] 8).toList.take 0 ++ (zp(mix f g)).toList ++ (zA0 #[.int .i64 0,.int .i64 0] 8).toList.drop(0+(zp(mix f g)).toList.length)).toArray=zp(mix f g):=by
    have hl:(zp(mix f g)).toList.length=16:=(by simp [zp]);rw [hl,Nat.zero_add,e0];simp
   rw [e1,World.setRow_alloc_new] at hr;exact hr
  have Hz:=zE hz;clear oA lA nA hz;have eB:=fA.out 3;obtain⟨⟨x4,x5⟩,⟨x6,x7⟩⟩:=HB.out.zRJ gA.out;go_wp2_with(first
   |(refine wpList_load_row rfl 155(.tmp 4) rfl(w.heap.size+1) rfl 155(zp(mix f g))(0,0) _ HA.out zG9 rfl eA.out ?_)
   |fail)
  have HS:Hid(qI(W.alloc(.cells(zp(mix f g)) 61)) 0(W.alloc(.cells(zp(mix f g)) 61)).heap.size(.int .i64(qY f g b).zRU)(.slice(some ⟨W.heap.size,0,none⟩) 8 8)(.string(qY f g b).data)(qY f g b)):=by
   refine⟨rfl,⟨by show 8<=maxLen;unfold maxLen;omega,_,8,rfl,Nat.le_refl _,fun _=>⟨W.heap.size,0,rfl,Nat.zero_le _,by simp,fun i hi=>?_⟩⟩,rfl,by show 0<=maxLen;omega⟩;have iB:i<8:=hi;have mA:(W.alloc(.cells(zp(mix f g)) 61)).heap[W.heap.size]?=some(.cells(zp(mix f g)) 61):=heap_alloc_last _ _;have g1:=(zI mA(yO(mix f g)(show i*2<16 by omega))).1;have g2:=(zI mA(yO(mix f g)(show i*2+1<16 by omega))).1;rw [(zGD f g i).1] at g1;rw [(zGD f g i).2] at g2;rw [Nat.zero_add];exact⟨g1,g2⟩
  refine(zGa _ _ _ lo hi 0 _ p(qY f g b) _(Hp.out.zRJ(zA hba gA.out)) HS.out(by show qE p+(8+0)<=_;exact Hn.out)).mono ?_;rintro e w3 ⟨s0,s1,rfl,ho3,hb3⟩;have bA:=zA gA.out hb3;have hz:=Hz.out;have jA:=zE(HR.out.zRJ bA);have aB:=zA hba bA;have gB:=bA.size;have He:Hid(zEz p f g b=zCt p(qY f g b)):=if_neg HN.out;have iA:Hid(zt w3 W.heap.size w3.heap.size s0 s1(zCt p(qY f g b)).zRQ):=ho3.zRO gA.out.size(Nat.le_refl _);generalize zCt p(qY f g b)=o at iA He ⊢;obtain⟨a1,c1,a2,c2,rfl,rfl⟩:=iA.out.form;clear ho3 hb3 bA x0 x1 x2 x3 x4 x5 x6 x7 hB HS fA eB;obtain⟨⟨u0,u1⟩,⟨u2,u3⟩,⟨u4,u5⟩,⟨u6,u7⟩,⟨u8,u9⟩⟩:=jA.out;go_wp2;have aA:=jA.out.put(.slice a1 o.zRQ.n c1)(.slice a2 o.zRQ.hn c2)(.int .i64 o.ps)(.int .i64 o.pb)(.int .i64 o.code);have dA:=zHJ(R:=w.heap.size+1+1)(u2:=.int .i64 o.ps)(u3:=.int .i64 o.pb)(u4:=.int .i64 o.code) iA.out(by omega)(by omega)(Nat.le_refl _) aB;rw [He.out];exact bodyPost_ret(v:=.agg #[.slice a1 o.zRQ.n c1,.slice a2 o.zRQ.hn c2,.int .i64 o.ps,.int .i64 o.pb,.int .i64 o.code])(by simp [results,Tryz.results161,go_sem,aA.1.1,aA.2.1.1,aA.2.2.1.1,aA.2.2.2.1.1,aA.2.2.2.2.1]) rfl ⟨_,_,rfl,dA.1,dA.2⟩
def zBB(f g:Nat->Int)(n:Nat):List(Int×Int):=(List.range n).map fun i=>(f i,g i)
theorem yG(f g:Nat->Int)(n:Nat):(zBB f g n).length=n:=by simp [zBB]
theorem zNy(f g:Nat->Int)(n:Nat):zBB f g(n+1)=zBB f g n ++ [(f n,g n)]:=by simp [zBB,List.range_succ]
theorem zKk(f g:Nat->Int){n i:Nat}(h:i<n):zf(zBB f g n) i=f i/\zh(zBB f g n) i=g i:=by
 have:(zBB f g n).getD i(0,0)=(f i,g i):=by
  rw [List.getD_eq_getElem?_getD,List.getElem?_eq_getElem(by rw [yG];exact h),Option.getD_some];simp [zBB]
 unfold zf zh;rw [this];exact⟨rfl,rfl⟩
theorem zHr{f g f' g':Nat->Int}{n:Nat}(h:∀i,i<n->f i=f' i/\g i=g' i):zBB f g n=zBB f' g' n:=by
 unfold zBB;apply List.map_congr_left;intro i hi;rw [List.mem_range] at hi;rw [(h i hi).1,(h i hi).2]
theorem zJB{w:World}{b off:Nat}{f g:Nat->Int}:∀{n:Nat},(∀i,i<n->w.cell? ⟨b,off+i*2,none⟩=some(.int .i64(f i))/\w.cell? ⟨b,off+i*2+1,none⟩=some(.int .i64(g i)))->∀j u,(pcl(zBB f g n))[j]?=some u->w.cell? ⟨b,off+j,none⟩=some u
 |0,_,j,u,hj=>by simp [zBB,pcl] at hj
 |n+1,h,j,u,hj=>by
  rw [zNy,zA9] at hj;by_cases aA:j<n*2
  ·rw [List.getElem?_append_left(by rw [zA5,yG];exact aA)] at hj;exact zJB(fun i hi=>h i(by omega)) j u hj
  ·rw [List.getElem?_append_right(by rw [zA5,yG];omega),zA5,yG] at hj;obtain⟨h1,h2⟩:=h n(Nat.lt_succ_self n);have bA:j - n*2<2:=by
    have:=(List.getElem?_eq_some_iff.1 hj).1;simpa [pcl] using this
   by_cases e:j=n*2
   ·subst e;rw [h1];simpa [pcl] using hj
   ·obtain rfl:j=n*2+1:=(by omega);rw [show n*2+1 - n*2=1 by omega] at hj;rw [<-Nat.add_assoc,h2];simpa [pcl] using hj
def yn(p:zJ)(xs xb:Int)(i:Nat):Int:=if Nil xs xb then 0 else zb(p.s xs.toNat) i
def zAF(p:zJ)(xs xb:Int)(i:Nat):Int:=if Nil xs xb then 0 else zu(p.s xs.toNat) i
theorem zPK:pcl(zBB(fun _=>0)(fun _=>0) 8)=(zA0 #[.int .i64 0,.int .i64 0] 8).toList:=by kernel_rfl
theorem zCx(v0 v1:Value)(lo hi:Nat)(p:zJ)(xs xb:Int)(w:World)(h1:zy w lo hi v0 v1 p)(hP:Nil xs xb\/(zr p xs xb/\(p.s xs.toNat).kn=8)) :
  Calls Tryz.prog 85 #[.agg #[v0,v1],.agg #[.int .i64 xs,.int .i64 xb]] w fun e w'=>∃b cp,e = .returned(.slice(some ⟨b,0,none⟩) 8 cp)/\zw w' w.heap.size(.slice(some ⟨b,0,none⟩) 8 cp)(zBB(yn p xs xb)(zAF p xs xb) 8)/\Below w.heap.size w w':=by
 have Hp:=zE h1;have HP:=zE hP;obtain⟨a,c,a',c',rfl,rfl⟩:∃a c a' c',v0 = .slice a p.n c/\v1 = .slice a' p.hn c':=by
  obtain⟨⟨_,a,c,h1,_⟩,⟨_,a',c',h3,_⟩⟩:=h1;exact⟨a,c,a',c',h1,h3⟩
 clear h1 hP;have oA:=zBx w(.slice a p.n c)(.slice a' p.hn c')(.int .i64 xs)(.int .i64 xb) 33 61;obtain⟨i0,hi0,hzz⟩:=Option.map_eq_some_iff.1 zA1;simp only [Prod.mk.injEq] at hzz;have HI:=zE(And.intro hi0 hzz);clear hi0 hzz;go_enter Tryz.func85,Tryz.ntmps85;go_wp2_with fail;generalize(w.alloc(.cells #[.slice a p.n c,.slice a' p.hn c'] 33)).alloc(.cells #[.int .i64 xs,.int .i64 xb] 61)=W at oA ⊢;obtain⟨hB,hX,hba,hz⟩:=oA;refine(ye xs xb W).mono ?_;rintro e w1 ⟨⟨t,rfl,ht⟩,hb1⟩;have kA:=zE(hB.zRJ hb1);have jA:=zE(hX.zRJ hb1);have lA:=zA hba hb1;have cB:w.heap.size+2<=w1.heap.size:=by have:=hb1.size;omega
 clear hB hX hba hb1 hz;by_cases hn:Nil xs xb
 ·have HN:=zE hn;obtain rfl:t=true:=ht.2 hn;clear ht hn;have mA:=zBC 62 61(.agg #[.int .i64 0,.int .i64 0]) 2 16(by kernel_rfl) zKj rfl 8(by omega)(by omega);have tA:∀w,(Instr.makeSlice 62(.int .i64 8)(.int .i64 8)).run Tryz.prog w = .ok(.slice(some ⟨w.heap.size,0,none⟩) 8 8)(w.alloc(.cells(zA0 #[.int .i64 0,.int .i64 0] 8) 61)):=mA;clear mA;have dA:=World.ownsRow_lit(e:=61)(size:=2)(base:=w.heap.size) w1(zA0 #[.int .i64 0,.int .i64 0] 8) 8(by omega)(by unfold maxLen;omega)(by decide +kernel);have rA:=zA lA(zC w1(.cells(zA0 #[.int .i64 0,.int .i64 0] 8) 61));have cA:=zE dA;clear dA;go_wp2;go_ret;refine⟨_,_,rfl,?_,rA⟩;have e0:zBB(yn p xs xb)(zAF p xs xb) 8=zBB(fun _=>0)(fun _=>0) 8:=zHr(fun i _=>⟨if_pos HN.out,if_pos HN.out⟩);unfold zw;rw [e0,zPK,yG];exact cA.out
 ·have HN:=zE hn;obtain rfl:t=false:=zQ ht hn;clear ht hn;obtain⟨iA,h8⟩:=HP.out.resolve_left HN.out;have eA:Hid(zBB(yn p xs xb)(zAF p xs xb) 8=zBB(p.s xs.toNat).ks(p.s xs.toNat).kb 8):=zHr(fun i hi=>⟨(if_neg HN.out).trans(zCz h8 hi),(if_neg HN.out).trans(zEi h8 hi)⟩);obtain⟨k,rfl⟩:=Int.eq_ofNat_of_zero_le iA.2.1;have hk:k<p.n:=(by have:=iA.2.2.1;omega);have dB:(k:Int)<(p.n:Int):=(by omega);rw [Int.toNat_natCast] at h8 eA;clear iA HP;obtain⟨b,off,ka,kc,rfl,hsc⟩:=Hp.out.1.cells hk;have nA:Hid(zR w lo hi(.slice ka 8 kc) 8(p.s k).ks(p.s k).kb):=(by have:=hsc.slot.2.1;rw [h8] at this;exact this);have gA:=zC w1(.cells #[] 61);have fA:=zA lA gA;obtain⟨q0,q1,q2,_⟩:=hsc.zRJ fA;rw [h8] at q1;have aB:=zE(kA.out.zRJ gA);have bB:=zE(jA.out.zRJ gA);have cA:=zE(World.ownsRow_lit(e:=61)(size:=2)(base:=w.heap.size) w1 #[] 0(by omega)(by unfold maxLen;omega) rfl);have eB:(w1.alloc(.cells #[] 61)).heap.size=w1.heap.size+1:=World.size_alloc _ _;obtain⟨⟨x0,x1⟩,⟨x2,x3⟩⟩:=aB.out;obtain⟨⟨y0,y1⟩,⟨y2,y3⟩⟩:=bB.out;have vA:=zE(nA.out.zRJ fA);clear gA hsc kA jA h8 nA;go_wp2_with(first
   |(at_builtin;refine qJ rfl _ _ 62 rfl w.heap.size 61 i0(.agg #[.int .i64 0,.int .i64 0]) 2 16(by kernel_rfl) HI.out.1 HI.out.2.1 HI.out.2.2.1 HI.out.2.2.2 rfl(by decide)(.slice(some ⟨w1.heap.size,0,none⟩) 0 0) 0 [] rfl ?c0 ka 8 kc(pcl(zBB(p.s k).ks(p.s k).kb 8)) rfl(by rw [zA5,yG])(zF4 _) ?c1 ?c3 ?c4 ?c5 ?_)
   |fail)
  case c0=>exact cA.out
  case c1=>
   intro h0;obtain⟨_,a2,c2,hv,_,hx⟩:=vA.out;simp only [Value.slice.injEq,true_and] at hv;obtain⟨rfl,rfl⟩:=hv;obtain⟨kb,koff,ha,_,_,h3⟩:=hx(by omega);exact⟨kb,koff,ha,zJB h3⟩
  case c3=>unfold maxLen;omega
  case c4=>omega
  case c5=>omega
  intro v3 w3 bA aA;obtain⟨g3,cp3,rfl,_⟩:=World.ownsRow.form bA(by omega);have pA:Hid(zw w3 w.heap.size(.slice(some ⟨g3,0,none⟩) 8 cp3)(zBB(yn p k xb)(zAF p k xb) 8)):=by
   unfold zw;rw [eA.out,yG];exact bA
  have sA:=fA.grown aA fA.size(fun q hq=>by simp only [Value.ownBlock,Option.some.injEq] at hq;omega);clear bA aA;go_wp2;go_ret;exact⟨_,_,rfl,pA.out,sA⟩
end Go.Proofs.YtmgeglgboadfiaaGreatDoor
