/- A part of the proof. -/
import Derived.Test.YtbplmbafodlboaaGreatDoorF12
import Derived.Deep.RegionLawGrows
import Derived.Scope
import Derived.WalkMore
import Derived.Deep.MidRow
set_option linter.unusedVariables false
set_option maxRecDepth 20000
set_option maxHeartbeats 4000000
namespace Go.Proofs.YtbplmbafodlboaaGreatDoor
open Go.RowKit
theorem zX1{w:World}{b off n:Nat}{f:Nat->zM}{cv:Nat->Value}(h:∀i,i<n->w.cell? ⟨b,off+i*3,none⟩=some (.int .i64 (f i).birth)/\w.cell? ⟨b,off+i*3+1,none⟩=some (cv i)/\w.cell? ⟨b,off+i*3+2,none⟩=some (.string (f i).data)) :
  ∀j u,(sc f cv n)[j]?=some u->w.cell? ⟨b,off+j,none⟩=some u:=by
 intro j u hj;have aA:j<n*3:=by
  have:=(List.getElem?_eq_some_iff.1 hj).1
  rwa [zM0]at this
 obtain⟨c0,c1,c2⟩:=h (j / 3) (by omega);have e:=zUQ f cv n (j / 3) (j % 3) (by omega) (by omega);rw[show j / 3*3+j % 3=j by omega,hj]at e;rcases(by omega:j % 3=0\/j % 3=1\/j % 3=2)with hm | hm | hm
 ·rw[hm]at e;simp at e;subst e;rw[show off+j=off+j / 3*3 by omega];exact c0
 ·rw[hm]at e;simp at e;subst e;rw[show off+j=off+j / 3*3+1 by omega];exact c1
 ·rw[hm]at e;simp at e;subst e;rw[show off+j=off+j / 3*3+2 by omega];exact c2
theorem zAR.values{w:World}{lo hi:Nat}{a:Option Addr}{n c:Nat}{f:Nat->zM}(h:zAR w lo hi (.slice a n c) n f) :
  ∃cv:Nat->Value,(∀i,i<n->zBq w lo hi (.int .i64 (f i).birth) (cv i) (.string (f i).data) (f i))/\
   (0<n->∃b off,a=some ⟨b,off,none⟩/\lo<=b/\b<hi/\∀j u,(sc f cv n)[j]?=some u->w.cell? ⟨b,off+j,none⟩=some u):=by
 obtain⟨_,a0,c0,h0,_,g⟩:=h;simp only[Value.slice.injEq,true_and]at h0;obtain⟨rfl,rfl⟩:=h0;by_cases hn:0<n
 ·obtain⟨b,off,ha,bA,cA,hc⟩:=g hn;have dA:∀i,∃x,i<n->(w.cell? ⟨b,off+i*3,none⟩=some (.int .i64 (f i).birth)/\w.cell? ⟨b,off+i*3+1,none⟩=some x/\w.cell? ⟨b,off+i*3+2,none⟩=some (.string (f i).data))/\zBq w lo hi (.int .i64 (f i).birth) x (.string (f i).data) (f i):=fun i=>by
   by_cases hi:i<n
   ·obtain⟨v0,v1,v2,q0,q1,q2,hs⟩:=hc i hi;have eA:=hs;obtain⟨rfl,_,rfl,_⟩:=eA;exact⟨v1,fun _=>⟨⟨q0,q1,q2⟩,hs⟩⟩
   ·exact⟨.slice none 0 0,fun h=>absurd h hi⟩
  obtain⟨cv,aA⟩:=Classical.axiomOfChoice dA;exact⟨cv,fun i hi=>(aA i hi).2,fun _=>⟨b,off,ha,bA,cA,zX1 fun i hi=>(aA i hi).1⟩⟩
 ·exact⟨fun _=>.slice none 0 0,fun i hi=>absurd hi (by omega),fun h=>absurd h hn⟩
theorem zBq.zcF{w:World}{lo hi:Nat}{v0 v1 v2:Value}{s:zM}(h:zBq w lo hi v0 v1 v2 s):∃ka kc,v1 = .slice ka s.kn kc:=by
 obtain⟨_,⟨_,ka,kc,h,_⟩,_⟩:=h;exact⟨ka,kc,h⟩
structure zNR (wr:World) (bs n k:Nat) (f:Nat->zM) (kb:Nat->Nat) (kv cv:Nat->Value):Prop where
 cells:∀j,j<n->zg wr bs (j*3) (.int .i64 (f j).birth)/\zg wr bs (j*3+1) (if j<k then kv j else cv j)/\zg wr bs (j*3+2) (.string (f j).data)
 kids:∀j,j<k->zAQ wr (kb j) (kv j) (f j).kn (f j).ks (f j).kb
 zcH:∀j,j<k->0<(f j).kn->bs<kb j/\kb j<wr.heap.size
 zcI:zHS kb k f
theorem zNR.zb7{wr w':World}{bs n k:Nat}{f:Nat->zM}{kb:Nat->Nat}{kv cv:Nat->Value}(h:zNR wr bs n k f kb kv cv)(t:Below wr.heap.size wr w'):zNR w' bs n k f kb kv cv:=
 ⟨fun j hj=>⟨(h.cells j hj).1.zb7 t,(h.cells j hj).2.1.zb7 t,(h.cells j hj).2.2.zb7 t⟩,fun j hj=>(h.kids j hj).zb7 t,fun j hj h0=>by have:=h.zcH j hj h0;have:=t.size;omega,h.zcI⟩
theorem zNR.next{wr w1:World}{bs n k b:Nat}{f:Nat->zM}{kb:Nat->Nat}{kv cv:Nat->Value}{v:Value}(h:zNR wr bs n k f kb kv cv)(hk:k<n)(bA:bs<wr.heap.size)(t:Below wr.heap.size wr w1)
  (hp:zAQ w1 b v (f k).kn (f k).ks (f k).kb) (hb:0<(f k).kn->wr.heap.size<=b/\b<w1.heap.size) :
  zNR (((w1.setCell ⟨bs,k*3,none⟩ (.int .i64 (f k).birth)).setCell ⟨bs,k*3+1,none⟩ v).setCell ⟨bs,k*3+2,none⟩ (.string (f k).data)) bs n (k+1) f (fun j=>if j=k then b else kb j) (fun j=>if j=k then v else kv j) cv:=by
 have h':=h.zb7 t;refine⟨fun j hj=>?_,fun j hj=>?_,fun j hj h0=>?_,fun i j hi hj aA h1 h2=>?_⟩
 ·obtain⟨c0,c1,c2⟩:=h'.cells j hj;by_cases e:j=k
  ·subst e;rw[if_pos (by omega),if_pos rfl];exact⟨((c0.set _).other _ (Or.inr (by omega))).other _ (Or.inr (by omega)),((c1.other _ (Or.inr (by omega))).set _).other _ (Or.inr (by omega)),((c2.other _ (Or.inr (by omega))).other _ (Or.inr (by omega))).set _⟩
  ·rw[if_neg e];have es:(if j<k+1 then kv j else cv j)=if j<k then kv j else cv j:=by
    by_cases e2:j<k
    ·rw[if_pos e2,if_pos (by omega)]
    ·rw[if_neg e2,if_neg (by omega)]
   rw[es];exact⟨((c0.other _ (Or.inr (by omega))).other _ (Or.inr (by omega))).other _ (Or.inr (by omega)),((c1.other _ (Or.inr (by omega))).other _ (Or.inr (by omega))).other _ (Or.inr (by omega)),((c2.other _ (Or.inr (by omega))).other _ (Or.inr (by omega))).other _ (Or.inr (by omega))⟩
 ·by_cases e:j=k
  ·subst e;simp only[if_true];refine((hp.zb8 (zJ.put _ _ _ _) ?_).zb8 (zJ.put _ _ _ _) ?_).zb8 (zJ.put _ _ _ _) ?_
   all_goals exact fun h0 hx=>by have:=hb h0;omega
  ·simp only[if_neg e];refine(((h'.kids j (by omega)).zb8 (zJ.put _ _ _ _) ?_).zb8 (zJ.put _ _ _ _) ?_).zb8 (zJ.put _ _ _ _) ?_
   all_goals exact fun h0 hx=>by have:=h'.zcH j (by omega) h0;omega
 ·simp only[World.size_setCell];by_cases e:j=k
  ·subst e;rw[if_pos rfl];have:=hb h0;omega
  ·rw[if_neg e];have:=h'.zcH j (by omega) h0;omega
 ·show(if i=k then b else kb i)≠(if j=k then b else kb j);by_cases e1:i=k
  ·by_cases e2:j=k
   ·omega
   ·rw[if_pos e1,if_neg e2];subst e1;have:=hb h1;have:=h.zcH j (by omega) h2;omega
  ·by_cases e2:j=k
   ·rw[if_neg e1,if_pos e2];subst e2;have:=hb h2;have:=h.zcH i (by omega) h1;omega
   ·rw[if_neg e1,if_neg e2];exact h.zcI i j (by omega) (by omega) aA h1 h2
theorem zNR.own{wr:World}{bs n:Nat}{f:Nat->zM}{kb:Nat->Nat}{kv cv:Nat->Value}{a:Option Addr}{c:Nat}(h:zNR wr bs n n f kb kv cv)(hm:n<=maxLen)(ha:0<n->a=some ⟨bs,0,none⟩)(hc:n<=c)(hs:∀j,j<n->(f j).data.size<=maxLen):zCX wr bs kb kv (.slice a n c) n f:=
 ⟨hm,a,c,rfl,hc,fun h0=>⟨0,ha h0,fun i hi=>by
  obtain⟨c0,c1,c2⟩:=h.cells i hi;rw[if_pos hi]at c1;rw[Nat.zero_add];exact⟨c0,c1,c2,h.kids i hi,hs i hi,fun hk e=>by have:=h.zcH i hi hk;omega⟩⟩⟩
theorem zLk(v:Value)(n lo hi:Nat)(f:Nat->zM)(w:World)(h1:zAR w lo hi v n f)(hn:n<=1048576)(hk:∀j,j<n->(f j).kn<=1048576) :
  Calls Tryz.prog 152 #[v] w fun e w'=>∃v' bs kb kv,e = .returned v'/\zCX w' bs kb kv v' n f/\zHS kb n f/\(∀k,zGC bs kb n f k->w.heap.size<=k/\k<w'.heap.size)/\Below w.heap.size w w':=by
 have Hm:=zBB h1.1;have q1:=h1;obtain⟨_,a,c,rfl,_,_⟩:=h1;obtain⟨cv,bA,mA⟩:=q1.values;have pA:=zBB bA;have Hk:=zBB hk;have dA:0<n->∃b off,a=some ⟨b,off,none⟩/\∀j u,(sc f cv n)[j]?=some u->w.cell? ⟨b,off+j,none⟩=some u:=fun h0=>by
  obtain⟨b,off,h2,_,_,h3⟩:=mA h0;exact⟨b,off,h2,h3⟩
 have kA:=za4 f cv n (fun i hi=>by obtain⟨ka,kc,e⟩:=(bA i hi).zcF;rw[e];rfl);clear bA hk q1 mA;go_enter Tryz.func152,Tryz.ntmps152;go_wp2_with fail;refine(zLl a n c (sc f cv n) w (zM0 _ _ _) kA hn dA).mono ?_;rintro e w1 ⟨v',rfl,eA,bB,_⟩;obtain⟨a1,c1,rfl,fB⟩:=qf eA;clear kA dA;have oA:∃bs,(0<n->a1=some ⟨bs,0,none⟩/\w.heap.size<=bs/\bs<w1.heap.size)/\zNR w1 bs n 0 f (fun _=>0) cv cv:=by
  by_cases h0:0<n
  ·obtain⟨g,cap,hv,_,jA,tA,aA⟩:=zC4 eA h0;simp only[Value.slice.injEq,true_and]at hv;obtain⟨rfl,rfl⟩:=hv;refine⟨g,fun _=>⟨rfl,jA,tA⟩,fun j hj=>⟨?_,?_,?_⟩,fun j hj=>absurd hj (Nat.not_lt_zero _),fun j hj=>absurd hj (Nat.not_lt_zero _),fun i j hi=>absurd hi (Nat.not_lt_zero _)⟩
   ·have:=aA (j*3+0) _ (zUQ f cv n j 0 hj (by omega));simpa using this
   ·have:=aA (j*3+1) _ (zUQ f cv n j 1 hj (by omega));simpa using this
   ·have:=aA (j*3+2) _ (zUQ f cv n j 2 hj (by omega));simpa using this
  ·exact⟨0,fun h=>absurd h h0,fun j hj=>absurd hj (by omega),fun j hj=>absurd hj (Nat.not_lt_zero _),fun j hj=>absurd hj (Nat.not_lt_zero _),fun i j hi=>absurd hi (Nat.not_lt_zero _)⟩
 obtain⟨bs,oA,cA⟩:=oA;have nA:=zBB oA;have gA:=zBB cA;clear eA oA cA;go_wp2
 go_loopw [4,5,10] (fun _ _ i wr=>∃(k:Nat) (kb:Nat->Nat) (kv:Nat->Value),k<=n/\i = .int .i64 k/\zNR wr bs n k f kb kv cv/\Below w.heap.size w wr/\w1.heap.size<=wr.heap.size) (fun _ _ i _=>n - (intOf i).toNat)
 case atStart=>exact⟨0,_,_,Nat.zero_le _,rfl,gA.out,bB,Nat.le_refl _⟩
 case round=>
  obtain⟨k,kb,kv,hk,rfl,hh,hb,hz⟩:=hrel;have Hh:=zBB hh;clear hh;by_cases fA:k<n
  ·have eB:(k:Int)<(n:Int):=(by omega);obtain⟨rfl,jA,tA⟩:=nA.out (by omega);obtain⟨ka,kc,bA⟩:=(pA.out k fA).zcF;have aB:Hid (zBq wr lo hi (.int .i64 (f k).birth) (.slice ka (f k).kn kc) (.string (f k).data) (f k)):=by
    have:=(pA.out k fA).zb7 hb;rw[bA]at this;exact this
   obtain⟨⟨q0,r0⟩,q1,⟨q2,r2⟩⟩:=Hh.out.cells k fA;rw[if_neg (by omega),bA]at q1;obtain⟨q1,r1⟩:=q1;go_wp2_with fail;have ha:=zD wr (.cells #[.int .i64 (f k).birth,.slice ka (f k).kn kc,.string (f k).data] 58);refine(zHv _ _ _ lo hi (f k) _ (aB.out.zb7 ha) (Hk.out k fA)).mono ?_;rintro e w2 ⟨nv,nb,rfl,rA,lA,sA⟩;obtain⟨_,na,nc,rfl,_⟩:=id rA;have iA:=zA ha sA;have vA:=zBB (Hh.out.next fA (by omega) iA rA (fun h0=>by have:=lA h0;rw[World.size_alloc]at this;omega));have cB:=zA hb iA;have gB:=iA.size;clear q0 q1 q2 r0 r1 r2;obtain⟨⟨q0,r0⟩,q1,⟨q2,r2⟩⟩:=(Hh.out.zb7 iA).cells k fA;rw[if_neg (by omega),bA]at q1;obtain⟨q1,r1⟩:=q1;clear rA lA sA ha iA bA;go_wp2;go_roundw
   case rel=>exact⟨k+1,_,_,by omega,by go_num,vA.out,((cB.setCell jA _).setCell jA _).setCell jA _,by simp only[World.size_setCell];omega⟩
   case measure=>simp[intOf];omega
  ·obtain rfl:k=n:=(by omega);go_wp2;go_ret;refine⟨_,bs,kb,kv,rfl,Hh.out.own Hm.out (fun h0=>(nA.out h0).1) fB (fun j hj=>(pA.out j hj).2.2.2),Hh.out.zcI,fun j hj=>?_,hb⟩;rcases hj with⟨h0,rfl⟩ | ⟨i,hi,h0,rfl⟩
   ·have:=nA.out h0;omega
   ·have:=nA.out (by omega);have:=Hh.out.zcH i hi h0;omega
theorem zHu(v0 v1:Value)(lo hi:Nat)(p:zF)(w:World)(h1:zCj w lo hi v0 v1 p)(hn:qo p<=1048576):Calls Tryz.prog 133 #[.agg #[v0,v1]] w (zTB p w):=by
 have Hp:=zBB h1;obtain⟨⟨m1,a,c,rfl,mc,g1⟩,⟨m2,a',c',rfl,gB,g2⟩⟩:=h1;have Hm:=zBB (And.intro m1 m2);clear g1 g2 m1 m2;unfold qo at hn;have Hn:Hid (∀j,j<p.n->(p.s j).kn<=1048576):=fun j hj=>by have h2:=zM6 p.s hj;unfold zCv at h2;omega
 have aB:p.n<=1048576:=by omega
 have bB:p.hn<=1048576:=by omega
 clear hn;have nA:=zD w (.cells #[.slice a p.n c,.slice a' p.hn c'] 26);have iA:=zA nA (zD _ (.cells #[.slice none 0 0,.slice none 0 0] 26));have HB:=zBB ((zA9.new w (.slice a p.n c) (.slice a' p.hn c') 26).zb7 (zD _ (.cells #[.slice none 0 0,.slice none 0 0] 26)));have lA:=zA9.new (w.alloc (.cells #[.slice a p.n c,.slice a' p.hn c'] 26)) (.slice none 0 0) (.slice none 0 0) 26;rw[World.size_alloc]at lA;have HR:=zBB lA;clear nA lA;go_enter Tryz.func133,Tryz.ntmps133;go_wp2_with fail;generalize hW:(w.alloc (.cells #[.slice a p.n c,.slice a' p.hn c'] 26)).alloc (.cells #[.slice none 0 0,.slice none 0 0] 26)=W at HB HR iA ⊢;have hz:W.heap.size=w.heap.size+2:=by rw[<-hW,World.size_alloc,World.size_alloc]
 clear hW;obtain⟨⟨x0,x1⟩,⟨x2,x3⟩⟩:=HB.out;obtain⟨⟨y0,y1⟩,⟨y2,y3⟩⟩:=HR.out;go_region_held3 (fun w'=>w'.cell? ⟨w.heap.size,0,none⟩=some (.slice a p.n c)/\w'.cell? ⟨w.heap.size,1,none⟩=some (.slice a' p.hn c')) (go_keep)
  (first
   | (go_at_call 152;refine(zLk _ p.n lo hi p.s _ ?_ aB Hn.out).mono ?_;(exact Hp.out.1.zb7 iA.drew);rintro e w1 ⟨v',bs,kb,kv,rfl,ho,oA,rA,pA⟩;obtain⟨_,sa,kA,rfl,_⟩:=id ho;have aA:=qY pA;obtain⟨⟨z0,z1⟩,⟨z2,z3⟩⟩:=HB.out.zb7 aA)
   | (go_at_call 153;refine(zNV _ _ _ (ic p.h p.hn) _ (zMD _ _) (zam _ _) bB ?_).mono ?_;(exact zZI Hp.out.2 rfl (zA iA aA));rintro e w2 ⟨v',rfl,dA,gA,cB⟩;obtain⟨ia,jA,rfl,_⟩:=qf dA;have bA:=zA aA gA;obtain⟨⟨z4,z5⟩,⟨z6,z7⟩⟩:=HB.out.zb7 bA;have sA:=zBB (HR.out.zb7 bA);obtain⟨⟨z8,z9⟩,⟨iB,jB⟩⟩:=HR.out.zb7 bA))
 obtain⟨hb,fA,cA⟩:=zPJ Hm.out.2 dA cB;have eB:W.heap.size<=w1.heap.size:=aA.size;have fB:w1.heap.size<=w2.heap.size:=gA.size;have eA:∀k,zGC bs kb p.n p.s k->W.heap.size<=k/\k<w1.heap.size:=rA;have tA:Hid (zAd w2 (w.heap.size+2) w2.heap.size (.slice sa p.n kA) (.slice ia p.hn jA) p):=by
  refine⟨bs,hb,kb,kv,ho.zb7 gA,oA,fA,fun h0 hx=>?_,fun k hk=>?_⟩
  ·have:=eA _ hx;have:=cA h0;omega
  ·rcases hk with hk | ⟨h0,rfl⟩
   ·have:=eA _ hk;omega
   ·have:=cA h0;omega
 have vA:=zA iA bA;clear fA cA rA eA ho oA dA pA aA gA bA;go_wp2;have mA:=sA.out.put (.slice sa p.n kA) (.slice ia p.hn jA);refine bodyPost_ret (v:=.agg #[.slice sa p.n kA,.slice ia p.hn jA]) (by simp[results,Tryz.results133,go_sem,mA.1.1,mA.2.1]) rfl ⟨_,_,rfl,?_,?_⟩
 ·have t:=(zJ.put w2 (w.heap.size+1) 0 (.slice sa p.n kA)).trans (zJ.put _ (w.heap.size+1) 1 (.slice ia p.hn jA));have hz:=t.size;exact(tA.out.zb8 t (fun k hk=>by omega)).wide (by omega) hz
 ·exact(vA.setCell (by show _<=w.heap.size+1;omega) _).setCell (by show _<=w.heap.size+1;omega) _
def zG3(p:zF)(xs:Int):zF:={n:=p.n,s:=p.s,hn:=p.hn+1,h:=fun i=>if i=p.hn then xs else p.h i}
def zBn(p:zF)(i:Nat)(s:zM):zF:={n:=p.n,s:=fun j=>if j=i then s else p.s j,hn:=p.hn,h:=p.h}
def zBX(n:Nat)(f:Nat->zM)(i:Nat):Prop:=i<n/\yh (f i)/\∀j,j<i->¬yh (f j)
theorem zBX.uniq{n:Nat}{f:Nat->zM}{i j:Nat}(h:zBX n f i)(h':zBX n f j):i=j:=by
 rcases Nat.lt_trichotomy i j with e | e | e
 ·exact absurd h.2.1 (h'.2.2 i e)
 ·exact e
 ·exact absurd h'.2.1 (h.2.2 j e)
open Classical in
noncomputable def zCi(p:zF)(s:zM):zLL:=
 if zz p/\¬yh s/\zDR p s then(if h:∃i,zBX p.n p.s i then⟨zBn p (Classical.choose h) s,((Classical.choose h:Nat):Int),s.birth,0⟩else⟨zCC 0,0,0,6⟩)else⟨zCC 0,0,0,1⟩
theorem zF3{p:zF}{s:zM}(h:zz p/\¬yh s/\zDR p s)(h':∀j,j<p.n->¬yh (p.s j)):zCi p s=⟨zCC 0,0,0,6⟩:=by
 unfold zCi;rw[if_pos h,dif_neg (fun ⟨i,hi⟩=>h' i hi.1 hi.2.1)]
theorem zJc{p:zF}{s:zM}{i:Nat}(h:zz p/\¬yh s/\zDR p s)(h':zBX p.n p.s i):zCi p s=⟨zBn p i s,(i:Int),s.birth,0⟩:=by
 unfold zCi;have hx:∃i,zBX p.n p.s i:=⟨i,h'⟩;rw[if_pos h,dif_pos hx];have e:Classical.choose hx=i:=(Classical.choose_spec hx).uniq h';rw[e]
theorem zM7(f:Nat->zM)(i:Nat)(s:zM):∀n,zBU (fun j=>if j=i then s else f j) n<=zBU f n+(if i<n then zCv s else 0)
 | 0=>Nat.zero_le _
 | n+1=>by
  have ih:=zM7 f i s n;show zBU (fun j=>if j=i then s else f j) n+zCv (if n=i then s else f n)<=zBU f n+zCv (f n)+_;by_cases e:n=i
  ·rw[if_pos e,if_pos (by omega)];rw[if_neg (by omega)]at ih;omega
  ·rw[if_neg e];by_cases e2:i<n
   ·rw[if_pos e2]at ih;rw[if_pos (by omega)];omega
   ·rw[if_neg e2]at ih;rw[if_neg (by omega)];omega
theorem zVc(p:zF)(i:Nat)(s:zM):qo (zBn p i s)<=qo p+zCv s:=by
 have h:=zM7 p.s i s p.n;have h2:(if i<p.n then zCv s else 0)<=zCv s:=by split<;>omega
 show p.n+zBU (fun j=>if j=i then s else p.s j) p.n+p.hn<=p.n+zBU p.s p.n+p.hn+zCv s;omega
def zEM(f g:Nat->Int):Prop:=∀i,i<8->Nil (f i) (g i)
def zBt(f g:Nat->Int)(b:Int):zM:={birth:=b,kn:=8,ks:=f,kb:=g,data:=⟨#[]⟩}
open Classical in
noncomputable def zT3(p:zF)(f g:Nat->Int)(b:Int):zLL:=if zEM f g then⟨p,0,0,0⟩else zCi p (zBt f g b)
def hop(J:Nat->Act->World->Prop)(Q:Exit->Act->World->Prop):Exit->Act->World->Prop
 | .goto l,a,w=>J l a w
 | e,a,w=>Q e a w
def zHs(p:zF)(xs xb:Int)(n L:Nat):Int:=if L=0 then xs else if L=1 then zJU p xs xb n else zMt p xs xb n
def zKx(p:zF)(xs xb:Int)(n L:Nat):Int:=if L=0 then xb else if L=1 then zJT p xs xb n else zMs p xs xb n
def plc(n L:Nat):Nat:=if L=0 then n / 8 else n % 8
def zYz(p:zF)(xs xb:Int)(n L j:Nat):Int:=if Nil (zHs p xs xb n L) (zKx p xs xb n L)then 0 else zi (p.s (zHs p xs xb n L).toNat) j
theorem zJQ(p:zF)(xs xb:Int)(n:Nat){L:Nat}(h:L<2):zHs p xs xb n (L+1)=zYz p xs xb n L (plc n L*2)/\zKx p xs xb n (L+1)=zYz p xs xb n L (plc n L*2+1):=by
 rcases L with _ | _ | L
 ·exact⟨rfl,rfl⟩
 ·exact⟨rfl,rfl⟩
 ·omega
theorem zXl{n L:Nat}(h:n<64):plc n L<8:=by unfold plc;split<;>omega
theorem zZA{p:zF}{xs xb:Int}{n L:Nat}(h:Nil (zHs p xs xb n L) (zKx p xs xb n L))(hL:L<2):Nil (zHs p xs xb n (L+1)) (zKx p xs xb n (L+1)):=by
 rw[(zJQ p xs xb n hL).1,(zJQ p xs xb n hL).2];unfold zYz;rw[if_pos h,if_pos h];exact⟨rfl,rfl⟩
def zSr(p:zF)(xs xb:Int)(n k:Nat):List (Int×Int):=kidsUp (fun i=>zHs p xs xb n (2 - i)) (fun i=>zKx p xs xb n (2 - i)) k
open Classical in
noncomputable def roomN(f:Nat->zM):Nat->Nat
 | 0=>0
 | k+1=>roomN f k+(if yh (f k)then 1 else 0)
theorem zDz{f:Nat->zM}{k:Nat}(h:yh (f k)):roomN f (k+1)=roomN f k+1:=by simp[roomN,h]
theorem zEI{f:Nat->zM}{k:Nat}(h:¬yh (f k)):roomN f (k+1)=roomN f k:=by simp[roomN,h]
theorem zJZ(f:Nat->zM):∀k,roomN f k<=k
 | 0=>Nat.le_refl _
 | k+1=>by
  have:=zJZ f k;by_cases h:yh (f k)
  ·rw[zDz h];omega
  ·rw[zEI h];omega
open Classical in
noncomputable def zUM(p:zF):Int:=if zz p then(roomN p.s p.n:Int)else 0
theorem zM2(p:zF)(i:Nat)(s:zM):(zBn p i s).s i=s:=if_pos rfl
theorem zHl(p:zF){i j:Nat}(s:zM)(h:j≠i):(zBn p i s).s j=p.s j:=if_neg h
theorem zE4{p:zF}{i:Nat}{s:zM}{xs xb:Int}(hi:yh (p.s i))(h:yT p xs xb):yT (zBn p i s) xs xb:=by
 obtain⟨h1,h2,h3,h4⟩:=h;refine⟨h1,h2,h3,?_⟩;have aA:xs.toNat≠i:=fun e=>by
  rw[e]at h4;have:=hi.1;omega
 rw[zHl p s aA];exact h4
theorem zQT{p:zF}{i:Nat}{s t:zM}(hi:yh (p.s i))(h:zDR p t):zDR (zBn p i s) t:=by
 refine⟨h.1,?_⟩;rcases h.2 with h2 | h2
 ·exact Or.inl h2
 ·refine Or.inr ⟨h2.1,h2.2.1,fun m hm=>?_⟩;rcases h2.2.2 m hm with h3 | h3
  ·exact Or.inl h3
  ·exact Or.inr ⟨zE4 hi h3.1,h3.2⟩
theorem zKD{p:zF}{i:Nat}{s:zM}(hR:zz p)(hi:zBX p.n p.s i)(hs:zDR p s):zz (zBn p i s):=by
 refine⟨hR.1,fun j hj=>?_,fun j hj=>?_⟩
 ·by_cases e:j=i
  ·rw[e,zM2];exact Or.inr (zQT hi.2.1 hs)
  ·rw[zHl p s e];rcases hR.2.1 j hj with h | h
   ·exact Or.inl h
   ·exact Or.inr (zQT hi.2.1 h)
 ·obtain⟨h1,h2,h3,h4⟩:=hR.2.2 j hj;refine⟨h1,h2,?_,h4⟩;have aA:(p.h j).toNat≠i:=fun e=>h3 (by rw[e];exact hi.2.1)
  show ¬yh ((zBn p i s).s (p.h j).toNat);rw[zHl p s aA];exact h3
theorem zAj{p:zF}{s:zM}(h:zDR p s):¬yh s:=fun hf=>by
 have:=hf.1;have:=h.1.1;omega
theorem zRJ{p:zF}{i:Nat}{s:zM}(hi:yh (p.s i))(hs:¬yh s):∀n,roomN (zBn p i s).s n+(if i<n then 1 else 0)=roomN p.s n
 | 0=>rfl
 | n+1=>by
  have ih:=zRJ hi hs n;by_cases e:n=i
  ·subst e;rw[if_pos (by omega)];rw[if_neg (by omega)]at ih;rw[zEI (by rw[zM2];exact hs),zDz hi];omega
  ·have aA:(zBn p i s).s n=p.s n:=zHl p s e;have bA:(if i<n+1 then 1 else 0)=(if i<n then 1 else 0):=by
    by_cases e2:i<n
    ·rw[if_pos e2,if_pos (by omega)]
    ·rw[if_neg e2,if_neg (by omega)]
   rw[bA];by_cases hf:yh (p.s n)
   ·rw[zDz (by rw[aA];exact hf),zDz hf];omega
   ·rw[zEI (by rw[aA];exact hf),zEI hf];exact ih
def zAC(w:World)(b:Nat)(v0 v1 v2 v3 v4 v5:Value):Prop:=zg w b 0 v0/\zg w b 1 v1/\zg w b 2 v2/\zg w b 3 v3/\zg w b 4 v4/\zg w b 5 v5
theorem zAC.c{w:World}{b:Nat}{v0 v1 v2 v3 v4 v5:Value}(h:zAC w b v0 v1 v2 v3 v4 v5):w.cell? ⟨b,0,none⟩=some v0/\w.cell? ⟨b,1,none⟩=some v1/\w.cell? ⟨b,2,none⟩=some v2/\w.cell? ⟨b,3,none⟩=some v3/\w.cell? ⟨b,4,none⟩=some v4/\w.cell? ⟨b,5,none⟩=some v5:=
 ⟨h.1.1,h.2.1.1,h.2.2.1.1,h.2.2.2.1.1,h.2.2.2.2.1.1,h.2.2.2.2.2.1⟩
theorem zAC.zb7{w w':World}{b:Nat}{v0 v1 v2 v3 v4 v5:Value}(h:zAC w b v0 v1 v2 v3 v4 v5)(t:Below w.heap.size w w'):zAC w' b v0 v1 v2 v3 v4 v5:=⟨h.1.zb7 t,h.2.1.zb7 t,h.2.2.1.zb7 t,h.2.2.2.1.zb7 t,h.2.2.2.2.1.zb7 t,h.2.2.2.2.2.zb7 t⟩
theorem zAC.zb8{S:Nat->Prop}{w w':World}{b:Nat}{v0 v1 v2 v3 v4 v5:Value}(h:zAC w b v0 v1 v2 v3 v4 v5)(t:zJ S w w')(hs:¬S b):zAC w' b v0 v1 v2 v3 v4 v5:=⟨h.1.zb8 t hs,h.2.1.zb8 t hs,h.2.2.1.zb8 t hs,h.2.2.2.1.zb8 t hs,h.2.2.2.2.1.zb8 t hs,h.2.2.2.2.2.zb8 t hs⟩
theorem zAC.new(w:World)(v0 v1 v2 v3 v4 v5:Value)(t:TypeId):zAC (w.alloc (.cells #[v0,v1,v2,v3,v4,v5] t)) w.heap.size v0 v1 v2 v3 v4 v5:=by
 have hb:(w.alloc (.cells #[v0,v1,v2,v3,v4,v5] t)).heap[w.heap.size]?=some (.cells #[v0,v1,v2,v3,v4,v5] t):=heap_alloc_new _ _;exact⟨zG hb rfl,zG hb rfl,zG hb rfl,zG hb rfl,zG hb rfl,zG hb rfl⟩
abbrev put6(w:World)(b:Nat)(u0 u1 u2 u3 u4 u5:Value):World:=(((((w.setCell ⟨b,0,none⟩ u0).setCell ⟨b,1,none⟩ u1).setCell ⟨b,2,none⟩ u2).setCell ⟨b,3,none⟩ u3).setCell ⟨b,4,none⟩ u4).setCell ⟨b,5,none⟩ u5
theorem zAC.put{w:World}{b:Nat}{v0 v1 v2 v3 v4 v5:Value}(h:zAC w b v0 v1 v2 v3 v4 v5)(u0 u1 u2 u3 u4 u5:Value):zAC (put6 w b u0 u1 u2 u3 u4 u5) b u0 u1 u2 u3 u4 u5:=
 have H (i:Nat) (u v:Value) (e:[u0,u1,u2,u3,u4,u5][i]?=some u) (c:zg w b i v):zg (put6 w b u0 u1 u2 u3 u4 u5) b i u:=zLB [u0,u1,u2,u3,u4,u5] w 0 i i e (Nat.zero_add i) c
 ⟨H 0 _ _ rfl h.1,H 1 _ _ rfl h.2.1,H 2 _ _ rfl h.2.2.1,H 3 _ _ rfl h.2.2.2.1,H 4 _ _ rfl h.2.2.2.2.1,H 5 _ _ rfl h.2.2.2.2.2⟩
theorem zJ.put6(w:World)(b:Nat)(u0 u1 u2 u3 u4 u5:Value):zJ (fun k=>k=b) w (put6 w b u0 u1 u2 u3 u4 u5):=
 (((((zJ.put w b 0 u0).trans (zJ.put _ b 1 u1)).trans (zJ.put _ b 2 u2)).trans (zJ.put _ b 3 u3)).trans (zJ.put _ b 4 u4)).trans (zJ.put _ b 5 u5)
def zBf(p:zF)(xs xb:Int)(n L:Nat)(x:Int)(i:Nat):Int:=if i=plc n L then x else zFn p (zHs p xs xb n L) (zKx p xs xb n L) i
def zBZ(p:zF)(xs xb:Int)(n L:Nat)(y:Int)(i:Nat):Int:=if i=plc n L then y else zFm p (zHs p xs xb n L) (zKx p xs xb n L) i
noncomputable def zRD(p:zF)(xs xb:Int)(n:Nat)(b:Int)(o:zLL)(L:Nat):zLL:=zT3 o.pool (zBf p xs xb n L o.ps) (zBZ p xs xb n L o.pb) b
noncomputable def zCe(p:zF)(xs xb:Int)(n:Nat)(b:Int)(o:zLL):Nat->zLL
 | 0=>o
 | k+1=>zRD p xs xb n b (zCe p xs xb n b o k) (1 - k)
theorem zMj:qo (zCC 0)=0:=rfl
theorem zNC(p:zF)(s:zM):qo (zCi p s).pool<=qo p+zCv s:=by
 unfold zCi;split
 ·split
  ·exact zVc _ _ _
  ·show qo (zCC 0)<=_;rw[zMj];omega
 ·show qo (zCC 0)<=_;rw[zMj];omega
theorem zSp(p:zF)(f g:Nat->Int)(b:Int):qo (zT3 p f g b).pool<=qo p+8:=by
 unfold zT3;split
 ·show qo p<=_;omega
 ·exact zNC p (zBt f g b)
theorem zOO(p:zF)(xs xb:Int)(n:Nat)(b:Int)(o:zLL):∀k,qo (zCe p xs xb n b o k).pool<=qo o.pool+8*k
 | 0=>Nat.le_refl _
 | k+1=>by
  have h1:=zOO p xs xb n b o k;have h2:=zSp (zCe p xs xb n b o k).pool (zBf p xs xb n (1 - k) (zCe p xs xb n b o k).ps) (zBZ p xs xb n (1 - k) (zCe p xs xb n b o k).pb) b;show qo (zT3 _ _ _ _).pool<=_;omega
structure zD9 where
 pool:zF
 rs:Int
 rb:Int
 old:List (Int×Int)
 code:Int
def zBY(c:Int):zD9:=⟨zCC 0,0,0,[],c⟩
open Classical in
noncomputable def zHr(p:zF)(xs xb:Int)(n:Nat)(b:Int)(o:zLL):zD9:=
 if (zCe p xs xb n b o 1).code≠0 then zBY (zCe p xs xb n b o 1).code
 else if (zCe p xs xb n b o 2).code≠0 then zBY (zCe p xs xb n b o 2).code
 else⟨(zCe p xs xb n b o 2).pool,(zCe p xs xb n b o 2).ps,(zCe p xs xb n b o 2).pb,zSr p xs xb n 3,0⟩
theorem zK5{p:zF}{xs xb:Int}{n:Nat}{b:Int}{o:zLL}{k:Nat}(hk:k<2)(h:∀j,j<=k->(zCe p xs xb n b o j).code=0)(hc:(zCe p xs xb n b o (k+1)).code≠0):zHr p xs xb n b o=zBY (zCe p xs xb n b o (k+1)).code:=by
 unfold zHr;rcases k with _ | _ | k
 ·rw[if_pos hc]
 ·rw[if_neg (fun hh=>hh (h 1 (by omega))),if_pos hc]
 ·omega
theorem zMT{p:zF}{xs xb:Int}{n:Nat}{b:Int}{o:zLL}(h:∀j,j<=2->(zCe p xs xb n b o j).code=0):zHr p xs xb n b o=⟨(zCe p xs xb n b o 2).pool,(zCe p xs xb n b o 2).ps,(zCe p xs xb n b o 2).pb,zSr p xs xb n 3,0⟩:=by
 unfold zHr;rw[if_neg (fun hh=>hh (h 1 (by omega))),if_neg (fun hh=>hh (h 2 (by omega)))]
def zEl(n:Int):Prop:=0<=n/\n<=63
open Classical in
noncomputable def zGj(p:zF)(xs xb page b:Int):zD9:=
 if zBR p xs xb/\zBI xb b then(if zEl page then(if Nil (zMt p xs xb page.toNat) (zMs p xs xb page.toNat)then zBY 4 else zHr p xs xb page.toNat b ⟨p,0,0,0⟩)else zBY 8)else zBY 1
theorem zOj{p:zF}{xs xb aA b:Int}(h:¬(zBR p xs xb/\zBI xb b)):zGj p xs xb aA b=zBY 1:=if_neg h
theorem zS3{p:zF}{xs xb aA b:Int}(h:zBR p xs xb/\zBI xb b)(h2:¬zEl aA):zGj p xs xb aA b=zBY 8:=(if_pos h).trans (if_neg h2)
theorem zVj{p:zF}{xs xb aA b:Int}(h:zBR p xs xb/\zBI xb b)(h2:zEl aA)(h3:Nil (zMt p xs xb aA.toNat) (zMs p xs xb aA.toNat)):zGj p xs xb aA b=zBY 4:=((if_pos h).trans (if_pos h2)).trans (if_pos h3)
theorem zRg{p:zF}{xs xb aA b:Int}(h:zBR p xs xb/\zBI xb b)(h2:zEl aA)(h3:¬Nil (zMt p xs xb aA.toNat) (zMs p xs xb aA.toNat)):zGj p xs xb aA b=zHr p xs xb aA.toNat b ⟨p,0,0,0⟩:=((if_pos h).trans (if_pos h2)).trans (if_neg h3)
def zBH(b:Int)(d:ByteArray):zM:={birth:=b,kn:=0,ks:=fun _=>0,kb:=fun _=>0,data:=d}
open Classical in
noncomputable def zC7(p:zF)(xs xb page:Int)(d:ByteArray)(b:Int):zD9:=
 if 8000<d.size then zBY 2 else if zBR p xs xb/\zBI xb b then(if zEl page/\d.size=16 then(if (zCi p (zBH b d)).code=0 then zHr p xs xb page.toNat b ⟨(zCi p (zBH b d)).pool,(zCi p (zBH b d)).ps,(zCi p (zBH b d)).pb,0⟩else zBY (zCi p (zBH b d)).code)else zBY 8)else zBY 1
theorem zNN{p:zF}{xs xb aA b:Int}{d:ByteArray}(h:8000<d.size):zC7 p xs xb aA d b=zBY 2:=if_pos h
theorem zNM{p:zF}{xs xb aA b:Int}{d:ByteArray}(h0:¬8000<d.size)(h:¬(zBR p xs xb/\zBI xb b)):zC7 p xs xb aA d b=zBY 1:=(if_neg h0).trans (if_neg h)
theorem zKo{p:zF}{xs xb aA b:Int}{d:ByteArray}(h0:¬8000<d.size)(h:zBR p xs xb/\zBI xb b)(h2:¬(zEl aA/\d.size=16)):zC7 p xs xb aA d b=zBY 8:=((if_neg h0).trans (if_pos h)).trans (if_neg h2)
theorem zS8{p:zF}{xs xb aA b:Int}{d:ByteArray}(h0:¬8000<d.size)(h:zBR p xs xb/\zBI xb b)(h2:zEl aA/\d.size=16)(h3:(zCi p (zBH b d)).code≠0):zC7 p xs xb aA d b=zBY (zCi p (zBH b d)).code:=(((if_neg h0).trans (if_pos h)).trans (if_pos h2)).trans (if_neg h3)
theorem zVk{p:zF}{xs xb aA b:Int}{d:ByteArray}(h0:¬8000<d.size)(h:zBR p xs xb/\zBI xb b)(h2:zEl aA/\d.size=16)(h3:(zCi p (zBH b d)).code=0):zC7 p xs xb aA d b=zHr p xs xb aA.toNat b ⟨(zCi p (zBH b d)).pool,(zCi p (zBH b d)).ps,(zCi p (zBH b d)).pb,0⟩:=(((if_neg h0).trans (if_pos h)).trans (if_pos h2)).trans (if_pos h3)
theorem zMf{p:zF}{xs xb:Int}{n:Nat}(hT:zBR p xs xb)(hn:n<64):∀{L:Nat},L<3->¬Nil (zHs p xs xb n L) (zKx p xs xb n L)->yT p (zHs p xs xb n L) (zKx p xs xb n L)/\zKx p xs xb n L<=xb
 | 0,_,hN=>⟨(hT.2.resolve_left hN).1.1,Int.le_refl _⟩
 | L+1,hL,hN=>by
  have aA:¬Nil (zHs p xs xb n L) (zKx p xs xb n L):=fun h=>hN (zZA h (by omega))
  obtain⟨h1,h2⟩:=zMf hT hn (L:=L) (by omega) aA;rw[(zJQ p xs xb n (show L<2 by omega)).1,(zJQ p xs xb n (show L<2 by omega)).2]at hN ⊢;unfold zYz at hN ⊢;rw[if_neg aA,if_neg aA]at hN ⊢;obtain⟨h3,h4⟩:=zCq (zAo hT.1 h1) (zXl (n:=n) (L:=L) hn) hN;refine⟨h3,?_⟩;have h5:=h1.2.2.2;have bA:zi (p.s (zHs p xs xb n L).toNat) (plc n L*2+1)<=(p.s (zHs p xs xb n L).toNat).birth:=h4;omega
theorem zEw{p q:zF}{xs xb x y b:Int}{n L:Nat}(hT:zBR p xs xb)(hn:n<64)(hL:L<2)(hB:zBI xb b)(bA:∀s t,yT p s t->yT q s t)(hx:Nil x y\/(yT q x y/\y<=b)) :
  zDR q (zBt (zBf p xs xb n L x) (zBZ p xs xb n L y) b):=by
 refine⟨hB.1,Or.inr ⟨rfl,by simp[zBt,Go.ByteArray.toList_eq],fun i hi=>?_⟩⟩;have aA:i<8:=hi;show zS9 q b (zBf p xs xb n L x i) (zBZ p xs xb n L y i);unfold zBf zBZ;by_cases e:i=plc n L
 ·rw[if_pos e,if_pos e];rcases hx with h | h
  ·exact Or.inl h
  ·exact Or.inr h
 ·rw[if_neg e,if_neg e];unfold zFn zFm;by_cases hN:Nil (zHs p xs xb n L) (zKx p xs xb n L)
  ·rw[if_pos hN,if_pos hN];exact Or.inl ⟨rfl,rfl⟩
  ·rw[if_neg hN,if_neg hN];obtain⟨h1,h2⟩:=zMf hT hn (L:=L) (by omega) hN;by_cases hk:Nil (yC (p.s (zHs p xs xb n L).toNat) i) (zAL (p.s (zHs p xs xb n L).toNat) i)
   ·exact Or.inl hk
   ·obtain⟨h3,h4⟩:=zCq (zAo hT.1 h1) aA hk;refine Or.inr ⟨bA _ _ h3,?_⟩;have h5:=h1.2.2.2;have h6:=hB.2;omega
theorem zFz{f:Nat->zM}:∀{n:Nat},roomN f n=0->∀j,j<n->¬yh (f j)
 | 0,_,j,hj=>absurd hj (Nat.not_lt_zero _)
 | n+1,h,j,hj=>by
  by_cases hf:yh (f n)
  ·rw[zDz hf]at h;omega
  ·rw[zEI hf]at h;by_cases e:j=n
   ·rw[e];exact hf
   ·exact zFz h j (by omega)
theorem zD0{f:Nat->zM}:∀{n:Nat},0<roomN f n->∃i,zBX n f i
 | 0,h=>absurd h (Nat.lt_irrefl _)
 | n+1,h=>by
  by_cases h0:0<roomN f n
  ·obtain⟨i,h1,h2,h3⟩:=zD0 h0;exact⟨i,by omega,h2,h3⟩
  ·by_cases hf:yh (f n)
   ·exact⟨n,by omega,hf,zFz (by omega)⟩
   ·rw[zEI hf]at h;exact absurd h h0
theorem zHi{p:zF}{i:Nat}{s:zM}(hi:zBX p.n p.s i)(hs:zDR p s):roomN (zBn p i s).s p.n+1=roomN p.s p.n:=by
 have h:=zRJ (p:=p) (i:=i) (s:=s) hi.2.1 (zAj hs) p.n;rw[if_pos hi.1]at h;exact h
theorem zDq{p:zF}{b:Int}{d:ByteArray}(hb:zBW b)(hd:d.size=16):zDR p (zBH b d):=⟨hb,Or.inl ⟨rfl,hd⟩⟩
theorem zId{p:zF}{i:Nat}{s:zM}(hi:zBX p.n p.s i)(hs:1<=s.birth):yT (zBn p i s) (i:Int) s.birth:=
 ⟨hs,by omega,by have:=hi.1;show(i:Int)<(p.n:Int);omega,by rw[Int.toNat_natCast,zM2]⟩
theorem zMl{p:zF}{xs xb x b:Int}{n L:Nat}(hn:n<64)(hb:1<=b):¬zEM (zBf p xs xb n L x) (zBZ p xs xb n L b):=fun h=>by
 have:=(h (plc n L) (zXl hn)).2;unfold zBZ at this;rw[if_pos rfl]at this;omega
def zBy(p:zF)(b:Int)(d:ByteArray)(i0:Nat):zF:=zBn p i0 (zBH b d)
def zFu(p:zF)(xs xb:Int)(n:Nat)(b:Int)(d:ByteArray)(i0 i1:Nat):zF:=zBn (zBy p b d i0) i1 (zBt (zBf p xs xb n 1 (i0:Int)) (zBZ p xs xb n 1 b) b)
def zXr(p:zF)(xs xb:Int)(n:Nat)(b:Int)(d:ByteArray)(i0 i1 i2:Nat):zF:=zBn (zFu p xs xb n b d i0 i1) i2 (zBt (zBf p xs xb n 0 (i1:Int)) (zBZ p xs xb n 0 b) b)
theorem zbw{p:zF}{xs xb b:Int}{d:ByteArray}{i0:Nat}(hT:zBR p xs xb)(hB:zBI xb b)(hd:d.size=16)(h0:zBX p.n p.s i0):zCi p (zBH b d)=⟨zBy p b d i0,(i0:Int),b,0⟩:=
 zJc ⟨hT.1,zAj (zDq (p:=p) hB.1 hd),zDq hB.1 hd⟩ h0
theorem zIf{p:zF}{xs xb b:Int}{d:ByteArray}{i0:Nat}(hT:zBR p xs xb)(hB:zBI xb b)(hd:d.size=16)(h0:zBX p.n p.s i0):zz (zBy p b d i0):=zKD hT.1 h0 (zDq hB.1 hd)
theorem zE0{p:zF}{xs xb b:Int}{n:Nat}{d:ByteArray}{i0:Nat}(hT:zBR p xs xb)(hn:n<64)(hB:zBI xb b)(h0:zBX p.n p.s i0):zDR (zBy p b d i0) (zBt (zBf p xs xb n 1 (i0:Int)) (zBZ p xs xb n 1 b) b):=
 zEw hT hn (by omega) hB (fun s t h=>zE4 h0.2.1 h) (Or.inr ⟨zId (s:=zBH b d) h0 hB.1.1,Int.le_refl _⟩)
theorem zJd{p:zF}{xs xb b:Int}{n:Nat}{d:ByteArray}{i0 i1:Nat}(hT:zBR p xs xb)(hn:n<64)(hB:zBI xb b)(h0:zBX p.n p.s i0)(h1:zBX p.n (zBy p b d i0).s i1):zDR (zFu p xs xb n b d i0 i1) (zBt (zBf p xs xb n 0 (i1:Int)) (zBZ p xs xb n 0 b) b):=
 zEw hT hn (by omega) hB (fun s t h=>zE4 (p:=zBy p b d i0) h1.2.1 (zE4 h0.2.1 h)) (Or.inr ⟨zId (p:=zBy p b d i0) (s:=zBt (zBf p xs xb n 1 (i0:Int)) (zBZ p xs xb n 1 b) b) h1 hB.1.1,Int.le_refl _⟩)
theorem zbP{p:zF}{xs xb b:Int}{n:Nat}{d:ByteArray}{i0:Nat}(hn:n<64)(hB:zBI xb b):zCe p xs xb n b ⟨zBy p b d i0,(i0:Int),b,0⟩ 1=zCi (zBy p b d i0) (zBt (zBf p xs xb n 1 (i0:Int)) (zBZ p xs xb n 1 b) b):=
 if_neg (zMl hn hB.1.1)
theorem zPP{p:zF}{xs xb b:Int}{n:Nat}{d:ByteArray}{i0 i1:Nat}(hT:zBR p xs xb)(hn:n<64)(hB:zBI xb b)(hd:d.size=16)(h0:zBX p.n p.s i0)(h1:zBX p.n (zBy p b d i0).s i1):zCe p xs xb n b ⟨zBy p b d i0,(i0:Int),b,0⟩ 1=⟨zFu p xs xb n b d i0 i1,(i1:Int),b,0⟩:=by
 rw[zbP hn hB];exact zJc ⟨zIf hT hB hd h0,zAj (zE0 (d:=d) hT hn hB h0),zE0 hT hn hB h0⟩ h1
theorem zbQ{p:zF}{xs xb b:Int}{n:Nat}{d:ByteArray}{i0 i1:Nat}(hT:zBR p xs xb)(hn:n<64)(hB:zBI xb b)(hd:d.size=16)(h0:zBX p.n p.s i0)(h1:zBX p.n (zBy p b d i0).s i1):zCe p xs xb n b ⟨zBy p b d i0,(i0:Int),b,0⟩ 2=zCi (zFu p xs xb n b d i0 i1) (zBt (zBf p xs xb n 0 (i1:Int)) (zBZ p xs xb n 0 b) b):=by
 show zRD p xs xb n b (zCe p xs xb n b ⟨zBy p b d i0,(i0:Int),b,0⟩ 1) 0=_;rw[zPP hT hn hB hd h0 h1];exact if_neg (zMl hn hB.1.1)
theorem zUE{n:Nat}(hn:n<64):zEl (n:Int):=⟨by omega,by omega⟩
theorem zRi{p:zF}{xs xb b:Int}{n:Nat}{d:ByteArray}{i0:Nat}(hT:zBR p xs xb)(hn:n<64)(hB:zBI xb b)(hd:d.size=16)(h0:zBX p.n p.s i0):zC7 p xs xb (n:Int) d b=zHr p xs xb n b ⟨zBy p b d i0,(i0:Int),b,0⟩:=by
 have t0:=zbw hT hB hd h0;rw[zVk (by omega) ⟨hT,hB⟩ ⟨zUE hn,hd⟩ (by rw[t0]),t0];rfl
theorem zMk{p:zF}{xs xb b:Int}{n:Nat}{d:ByteArray}{i0 i1:Nat}(hT:zBR p xs xb)(hn:n<64)(hB:zBI xb b)(hd:d.size=16)(h0:zBX p.n p.s i0)(h1:zBX p.n (zBy p b d i0).s i1):zz (zFu p xs xb n b d i0 i1):=
 zKD (zIf hT hB hd h0) h1 (zE0 hT hn hB h0)
theorem zYO{p:zF}{xs xb b:Int}{n:Nat}{d:ByteArray}{i0 i1 i2:Nat}(hT:zBR p xs xb)(hn:n<64)(hB:zBI xb b)(hd:d.size=16)(h0:zBX p.n p.s i0)(h1:zBX p.n (zBy p b d i0).s i1)(h2:zBX p.n (zFu p xs xb n b d i0 i1).s i2) :
  zC7 p xs xb (n:Int) d b=⟨zXr p xs xb n b d i0 i1 i2,(i2:Int),b,zSr p xs xb n 3,0⟩:=by
 rw[zRi hT hn hB hd h0];have e1:=zPP hT hn hB hd h0 h1;have e2:zCe p xs xb n b ⟨zBy p b d i0,(i0:Int),b,0⟩ 2=⟨zXr p xs xb n b d i0 i1 i2,(i2:Int),b,0⟩:=by
  rw[zbQ hT hn hB hd h0 h1];exact zJc ⟨zMk hT hn hB hd h0 h1,zAj (zJd (d:=d) hT hn hB h0 h1),zJd hT hn hB h0 h1⟩ h2
 rw[zMT (fun j hj=>by
  rcases j with _ | _ | _ | j
  ·rfl
  ·rw[e1]
  ·rw[e2]
  ·omega),e2]
theorem zS7{p:zF}{xs xb b:Int}{n:Nat}{d:ByteArray}(hT:zBR p xs xb)(hn:n<64)(hB:zBI xb b)(hd:d.size=16)(hr:roomN p.s p.n<3):zC7 p xs xb (n:Int) d b=zBY 6:=by
 by_cases r0:roomN p.s p.n=0
 ·have t0:=zF3 (p:=p) (s:=zBH b d) ⟨hT.1,zAj (zDq (p:=p) hB.1 hd),zDq hB.1 hd⟩ (zFz r0);rw[zS8 (by omega) ⟨hT,hB⟩ ⟨zUE hn,hd⟩ (by rw[t0];decide),t0]
 ·obtain⟨i0,h0⟩:=zD0 (f:=p.s) (n:=p.n) (by omega);have q0:=zHi (s:=zBH b d) h0 (zDq hB.1 hd);rw[zRi hT hn hB hd h0];by_cases r1:roomN (zBy p b d i0).s p.n=0
  ·have t1:=zF3 (p:=zBy p b d i0) ⟨zIf hT hB hd h0,zAj (zE0 (n:=n) (d:=d) hT hn hB h0),zE0 hT hn hB h0⟩ (zFz r1);have e1:=zbP (p:=p) (xs:=xs) (d:=d) (i0:=i0) hn hB;rw[t1]at e1;rw[zK5 (k:=0) (by omega) (fun j hj=>by cases (show j=0 from by omega);rfl) (by rw[e1];decide),e1]
  ·obtain⟨i1,h1⟩:=zD0 (f:=(zBy p b d i0).s) (n:=p.n) (by omega);have q1:roomN (zFu p xs xb n b d i0 i1).s p.n+1=roomN (zBy p b d i0).s p.n:=zHi (p:=zBy p b d i0) h1 (zE0 hT hn hB h0);have aA:roomN (zBy p b d i0).s p.n+1=roomN p.s p.n:=q0;have r2:roomN (zFu p xs xb n b d i0 i1).s p.n=0:=(by omega);have t2:=zF3 (p:=zFu p xs xb n b d i0 i1) ⟨zMk hT hn hB hd h0 h1,zAj (zJd (d:=d) hT hn hB h0 h1),zJd hT hn hB h0 h1⟩ (zFz r2);have e1:=zPP hT hn hB hd h0 h1;have e2:=zbQ hT hn hB hd h0 h1;rw[t2]at e2;rw[zK5 (k:=1) (by omega) (fun j hj=>by
    rcases j with _ | _ | j
    ·rfl
    ·rw[e1]
    ·omega) (by rw[e2];decide),e2]
def zCk(w:World)(S:Nat->Prop)(v0 v1:Value)(p:zF):Prop:=
 ∃(bs hb:Nat) (kb:Nat->Nat) (kv:Nat->Value),zCX w bs kb kv v0 p.n p.s/\zHS kb p.n p.s/\zDS w hb v1 p.hn p.h/\(0<p.hn->¬zGC bs kb p.n p.s hb)/\
  ∀k,zGC bs kb p.n p.s k\/(0<p.hn/\k=hb)->S k
theorem zAd.isIn{w:World}{lo hi:Nat}{S:Nat->Prop}{v0 v1:Value}{p:zF}(h:zAd w lo hi v0 v1 p)(hS:∀k,lo<=k->k<hi->S k):zCk w S v0 v1 p:=by
 obtain⟨bs,hb,kb,kv,h1,h2,h3,h4,h5⟩:=h;exact⟨bs,hb,kb,kv,h1,h2,h3,h4,fun k hk=>hS k (h5 k hk).1 (h5 k hk).2⟩
theorem zCk.own{w:World}{lo hi:Nat}{S:Nat->Prop}{v0 v1:Value}{p:zF}(h:zCk w S v0 v1 p)(hS:∀k,S k->lo<=k/\k<hi):zAd w lo hi v0 v1 p:=by
 obtain⟨bs,hb,kb,kv,h1,h2,h3,h4,h5⟩:=h;exact⟨bs,hb,kb,kv,h1,h2,h3,h4,fun k hk=>hS k (h5 k hk)⟩
theorem zCk.zb7{w w':World}{S:Nat->Prop}{v0 v1:Value}{p:zF}(h:zCk w S v0 v1 p)(t:Below w.heap.size w w'):zCk w' S v0 v1 p:=by
 obtain⟨bs,hb,kb,kv,h1,h2,h3,h4,h5⟩:=h;exact⟨bs,hb,kb,kv,h1.zb7 t,h2,h3.zb7 t,h4,h5⟩
theorem zCk.zb8{S T:Nat->Prop}{w w':World}{v0 v1:Value}{p:zF}(h:zCk w S v0 v1 p)(t:zJ T w w')(hs:∀k,S k->¬T k):zCk w' S v0 v1 p:=by
 obtain⟨bs,hb,kb,kv,h1,h2,h3,h4,h5⟩:=h;have out:∀k,zGC bs kb p.n p.s k\/(0<p.hn/\k=hb)->¬T k:=fun k hk=>hs k (h5 k hk)
 exact⟨bs,hb,kb,kv,h1.zb8 t (fun h0=>out _ (Or.inl (Or.inl ⟨h0,rfl⟩))) (fun i hi h=>out _ (Or.inl (Or.inr ⟨i,hi,h,rfl⟩))),h2,h3.zb8 t (fun h0=>out _ (Or.inr ⟨h0,rfl⟩)),h4,h5⟩
theorem zCk.at{w:World}{S:Nat->Prop}{lo hi:Nat}{v0 v1:Value}{p:zF}(h:zCk w S v0 v1 p)(hS:∀k,S k->lo<=k/\k<hi):zCj w lo hi v0 v1 p:=(h.own hS).at
theorem zRf{p q:zF}{xs xb x y b:Int}{n:Nat}(h1:zCe p xs xb n b ⟨p,0,0,0⟩ 1=⟨q,x,y,0⟩)(hN:zEM (zBf p xs xb n 0 x) (zBZ p xs xb n 0 y)):zHr p xs xb n b ⟨p,0,0,0⟩=⟨q,0,0,zSr p xs xb n 3,0⟩:=by
 have e2:zCe p xs xb n b ⟨p,0,0,0⟩ 2=⟨q,0,0,0⟩:=by
  show zRD p xs xb n b (zCe p xs xb n b ⟨p,0,0,0⟩ 1) 0=_;rw[h1];exact if_pos hN
 rw[zMT (fun j hj=>by
  rcases j with _ | _ | _ | j
  ·rfl
  ·rw[h1]
  ·rw[e2]
  ·omega),e2]
theorem zRh{p q:zF}{xs xb x y b:Int}{n i:Nat}(h1:zCe p xs xb n b ⟨p,0,0,0⟩ 1=⟨q,x,y,0⟩)(hN:¬zEM (zBf p xs xb n 0 x) (zBZ p xs xb n 0 y))(hR:zz q)(hF:zDR q (zBt (zBf p xs xb n 0 x) (zBZ p xs xb n 0 y) b))(hi:zBX q.n q.s i) :
  zHr p xs xb n b ⟨p,0,0,0⟩=⟨zBn q i (zBt (zBf p xs xb n 0 x) (zBZ p xs xb n 0 y) b),(i:Int),b,zSr p xs xb n 3,0⟩:=by
 have e2:zCe p xs xb n b ⟨p,0,0,0⟩ 2=⟨zBn q i (zBt (zBf p xs xb n 0 x) (zBZ p xs xb n 0 y) b),(i:Int),b,0⟩:=by
  show zRD p xs xb n b (zCe p xs xb n b ⟨p,0,0,0⟩ 1) 0=_;rw[h1];exact(if_neg hN).trans (zJc ⟨hR,zAj hF,hF⟩ hi)
 rw[zMT (fun j hj=>by
  rcases j with _ | _ | _ | j
  ·rfl
  ·rw[h1]
  ·rw[e2]
  ·omega),e2]
theorem zOk{p q:zF}{xs xb x y b:Int}{n:Nat}(h1:zCe p xs xb n b ⟨p,0,0,0⟩ 1=⟨q,x,y,0⟩)(hN:¬zEM (zBf p xs xb n 0 x) (zBZ p xs xb n 0 y))(hR:zz q)(hF:zDR q (zBt (zBf p xs xb n 0 x) (zBZ p xs xb n 0 y) b))(aA:∀j,j<q.n->¬yh (q.s j)) :
  zHr p xs xb n b ⟨p,0,0,0⟩=zBY 6:=by
 have e2:zCe p xs xb n b ⟨p,0,0,0⟩ 2=⟨zCC 0,0,0,6⟩:=by
  show zRD p xs xb n b (zCe p xs xb n b ⟨p,0,0,0⟩ 1) 0=_;rw[h1];exact(if_neg hN).trans (zF3 ⟨hR,zAj hF,hF⟩ aA)
 rw[zK5 (k:=1) (by omega) (fun j hj=>by
    rcases j with _ | _ | j
    ·rfl
    ·rw[h1]
    ·omega) (by rw[e2];decide),e2]
theorem zb3{p:zF}{xs xb b:Int}{n:Nat}(hN:zEM (zBf p xs xb n 1 0) (zBZ p xs xb n 1 0)):zCe p xs xb n b ⟨p,0,0,0⟩ 1=⟨p,0,0,0⟩:=if_pos hN
theorem zb4{p:zF}{xs xb b:Int}{n i:Nat}(hT:zBR p xs xb)(hn:n<64)(hB:zBI xb b)(hN:¬zEM (zBf p xs xb n 1 0) (zBZ p xs xb n 1 0))(hi:zBX p.n p.s i) :
  zCe p xs xb n b ⟨p,0,0,0⟩ 1=⟨zBn p i (zBt (zBf p xs xb n 1 0) (zBZ p xs xb n 1 0) b),(i:Int),b,0⟩:=by
 have hF:zDR p (zBt (zBf p xs xb n 1 0) (zBZ p xs xb n 1 0) b):=zEw hT hn (by omega) hB (fun s t h=>h) (Or.inl ⟨rfl,rfl⟩);exact(if_neg hN).trans (zJc ⟨hT.1,zAj hF,hF⟩ hi)
theorem zWp{p:zF}{xs xb b:Int}{n:Nat}(hT:zBR p xs xb)(hn:n<64)(hB:zBI xb b)(hN:¬zEM (zBf p xs xb n 1 0) (zBZ p xs xb n 1 0))(aA:∀j,j<p.n->¬yh (p.s j)):zHr p xs xb n b ⟨p,0,0,0⟩=zBY 6:=by
 have hF:zDR p (zBt (zBf p xs xb n 1 0) (zBZ p xs xb n 1 0) b):=zEw hT hn (by omega) hB (fun s t h=>h) (Or.inl ⟨rfl,rfl⟩);have e1:zCe p xs xb n b ⟨p,0,0,0⟩ 1=⟨zCC 0,0,0,6⟩:=(if_neg hN).trans (zF3 ⟨hT.1,zAj hF,hF⟩ aA);rw[zK5 (k:=0) (by omega) (fun j hj=>by cases (show j=0 from by omega);rfl) (by rw[e1];decide),e1]
theorem zX8{f g:Nat->Int}:(∃i,i<8/\¬Nil (f i) (g i))↔¬zEM f g:=by
 constructor
 ·rintro⟨i,hi,h⟩ hA;exact h (hA i hi)
 ·intro h;apply Classical.byContradiction;intro hx;exact h fun i hi=>Classical.byContradiction fun hn=>hx ⟨i,hi,hn⟩
set_option linter.unusedSimpArgs false
set_option maxRecDepth 20000
set_option maxHeartbeats 1600000
attribute [local go_sem] qW List.map_cons List.map_nil Tr.cv yo qG qw qv yn ym yk qu zAv zAx zAw zAs zAu zAt zCK zCM zCL qK zn qL zo qE qD qP yx zk zl yB qJ tmpsOf zAf yA qI zAr yu yq yp yr stpP opds opd opdC kap zAE qF zj coreU bin zAY zB6 get put dlO fgt zA6 zAz zA3 zA4 tyT yj yi Op.operands Call.operands evLoad evLen evStore evAlloc zAZ and_true true_and List.append_nil List.nil_append List.cons_append Ret resCv zBx yP cellM zBT zB3 qX StW StR hpT hpO hpV hpA hpL hpC sg nin zCD bdO tmW obW AvE CsE CvE Av.tup Av.ids Cv.ids inD ObE Ob.ids TrE.refl qH qx qy qM qN qO zm zb za yw zBd zCB zAy evCall argL argOf qj outOb obO yM zy cvO tot Tr.own rid partsOf fillC zT zBS frz frz1 evBuildSlice zc trs Cv.tr evSlice Option.toArray_none Option.toArray_some evMakeSlice evAppend dstOf srcOf zAq zA5 zA2 zA0 zA1 ikT qt qs qq qp RetP RetN zBe qR evLd evSt evStoreH zAP evAppendM evAppendT tlOf mvOf rowE shp evTake oOf evC evCallP evCallN evCallO unlast zAK zAp zAO argsF zCA qn pmC varT vT evField evConv dB0 Option.bind_some Option.bind_none Option.map_some Option.map_none Option.isSome_some Option.isSome_none
attribute [local go_sem] yF zY zAk
noncomputable def zaG:zW:=qZ (fun p:zF=>[poT p.n p.s p.hn p.h]) (fun p=>p.n<=1000000) (fun p=>[iT (roomN p.s p.n:Int)])
theorem zXA(p:zF):zaG [poT p.n p.s p.hn p.h]=some (p.n<=1000000,[iT (roomN p.s p.n:Int)]):=zO (fun l=>zEt (nth l 0 0) (nth l 0 1)) (fun _=>rfl) p
theorem zSS:zw Tryz.prog 132 zaG:=by
 refine zQ zs (GOk.cons zEz (zE Tryz.func28 rfl rfl) GOk.nil) zr Tryz.func132 rfl Tryz.ntmps132 Tryz.results132 5 ?_;rintro p hn;replace hn:p.n<=1000000:=hn;refine⟨by simp,?_⟩;simp[go_sem];refine yE (fun k:Nat=>⟨[(1,true,.m false [.p 1 0]),(3,true,.i (roomN p.s k)),(4,true,.i k)],[(1,.var [.s .b 3 p.n (zU .b p.s),.s .b 1 p.hn (qh p.h)])]⟩) (fun k=>p.n - k) (fun k=>k<=p.n) 0 (by simp[go_sem,roomN]) (by simp) ?_;rintro k hk;have hr:=zJZ p.s k;simp[go_sem,qB (show k<=1000000000 by omega),qB (show roomN p.s k<=1000000000 by omega),zFp];refine⟨fun hl=>⟨hl,fun h=>⟨k+1,by omega,by omega,by rw[zDz h];rfl,rfl⟩,fun h=>⟨k+1,by omega,by omega,by rw[zEI h],rfl⟩⟩,fun hl=>?_⟩;cases (show k=p.n by omega);rfl
theorem zVf{fl:Fl}(p:zF)(k:Nat)(s:zM):TrE (.s fl 3 p.n (yK (zU .z p.s) k 0 [.v (.int .i64 s.birth),.s .z 2 s.kn (ptrsT s.ks s.kb),.v (.string s.data)])) (.s fl 3 p.n (zU .z (zBn p k s).s)):=by
 refine zD2 fun i j hi hj=>?_
 by_cases h:i=k
 ·subst h
  match j,hj with
  | 0,_=>simp[yK,zU,zBn]
  | 1,_=>simp[yK,zU,zBn]
  | 2,_=>simp[yK,zU,zBn]
 ·match j,hj with
  | 0,_=>simp[yK,zU,zBn,h]
  | 1,_=>simp[yK,zU,zBn,h]
  | 2,_=>simp[yK,zU,zBn,h]
noncomputable def tk1(p:zF)(s:zM):zF×Int×Int×Bool:=@dite _ (∃i,zBX p.n p.s i) (Classical.propDecidable _) (fun h=>(zBn p h.choose s,(h.choose:Int),s.birth,true)) (fun _=>(p,0,0,false))
theorem zEb{p:zF}{s:zM}{i:Nat}(h:zBX p.n p.s i):tk1 p s=(zBn p i s,(i:Int),s.birth,true):=by
 have hx:∃i,zBX p.n p.s i:=⟨i,h⟩;unfold tk1;rw[dif_pos hx,hx.choose_spec.uniq h]
theorem zPs{p:zF}{s:zM}(h:∀i,i<p.n->¬yh (p.s i)):tk1 p s=(p,0,0,false):=dif_neg fun ⟨i,hi⟩=>h i hi.1 hi.2.1
abbrev poV(p:zF):List Tr:=[.s .o 3 p.n (zU .z p.s),.s .o 1 p.hn (qh p.h)]
abbrev slZ(s:zM):Bool×List Tr:=(true,[.v (.int .i64 s.birth),.s .z 2 s.kn (ptrsT s.ks s.kb),.v (.string s.data)])
noncomputable def zXG:zW:=qZ (fun q:zF×zM=>(true,poV q.1) :: [slZ q.2]) (fun q=>q.1.n<=1000000) (fun q=>[poO (tk1 q.1 q.2).1,pT (tk1 q.1 q.2).2.1 (tk1 q.1 q.2).2.2.1,(false,[.v (.bool (tk1 q.1 q.2).2.2.2)])])
theorem zQ7(p:zF)(s:zM):zXG [(true,poV p),slZ s]=some (p.n<=1000000,[poO (tk1 p s).1,pT (tk1 p s).2.1 (tk1 p s).2.2.1,(false,[.v (.bool (tk1 p s).2.2.2)])]):=zO (fun l=>(zEt (nth l 0 0) (nth l 0 1),zI7 (nth l 1 0) (nth l 1 1) (nth l 1 2))) (fun _=>rfl) (p,s)
theorem zMN:zBh Tryz.prog 130 zXG:=by
 refine zBM zs (GOk.cons zEz (zE Tryz.func28 rfl rfl) GOk.nil) zr Tryz.func130 rfl Tryz.ntmps130 Tryz.results130 7 ?_;rintro⟨p,s⟩ hn;replace hn:p.n<=1000000:=hn;refine⟨by simp,?_⟩;simp[go_sem];refine yE (fun k:Nat=>⟨[(6,true,.i k),(4,true,.m false [.p 4 0]),(3,true,.m false [.p 3 0]),(0,true,.m false [.p 0 0])],[(4,.var [.v i0,.v i0]),(3,.var [.v (.int .i64 s.birth),.s .z 2 s.kn (ptrsT s.ks s.kb),.v (.string s.data)]),(0,.var [.h 1000,.h 2000]),(1000,.row 3 p.n (zU .z p.s)),(2000,.row 1 p.hn (qh p.h))]⟩) (fun k=>p.n - k) (fun k=>k<=p.n/\∀i,i<k->¬yh (p.s i)) 0 (by simp[go_sem]) (by simp) ?_;rintro k ⟨hk,aA⟩;simp[go_sem,qB (show k<=1000000000 by omega),zFp];refine⟨fun hl=>⟨hl,fun h=>?_,fun h=>⟨k+1,⟨by omega,qz hl aA h⟩,by omega,rfl⟩⟩,fun hl=>?_⟩
 ·rw[zEb ⟨hl,h,aA⟩];exact⟨hl,by kernel_rfl,⟨⟨zVf p k s,zR⟩,TrE.refl _,zX⟩,⟨rfl,rfl⟩,rfl⟩
 ·rw[zPs fun i hi=>aA i (by omega)];exact⟨⟨⟨TrE.refl _,zR⟩,TrE.refl _,zX⟩,⟨rfl,rfl⟩,rfl⟩
def orSp(a b:zW):zW:=fun l=>match a l with
 | some r=>some r
 | none=>b l
theorem zXa{a b:zW}{l:List (Bool×List Tr)}{r:Prop×List (Bool×List Tr)}(h:a l=some r):orSp a b l=some r:=by unfold orSp;rw[h]
theorem zXc{a b:zW}{l:List (Bool×List Tr)}{r:Prop×List (Bool×List Tr)}(h:a l=none)(h':b l=some r):orSp a b l=some r:=by unfold orSp;rw[h];exact h'
theorem zOV{ι : Type}{A:ι->List (Bool×List Tr)}{C:ι->Prop}{R:ι->List (Bool×List Tr)}{l:List (Bool×List Tr)}(h:∀x,A x≠l):qZ A C R l=none:=dif_neg fun ⟨x,hx⟩=>h x hx
theorem zXb{P:Program}{f:Nat}{a b:zW}(ha:zBh P f a)(hb:zBh P f b):zBh P f (orSp a b):=by
 intro w vs al c rs aA hc;unfold orSp at aA;split at aA
 ·rename_i r hr
  cases aA;exact ha w vs al c rs hr hc
 ·exact hb w vs al c rs aA hc
noncomputable def zSk:zW:=qZ (fun q:zF×Int×ByteArray=>(true,poV q.1) :: [(true,[.v (.int .i64 q.2.1),.v n0,.v (.string q.2.2)])]) (fun q=>q.1.n<=1000000) (fun q=>[poO (tk1 q.1 (zBH q.2.1 q.2.2)).1,pT (tk1 q.1 (zBH q.2.1 q.2.2)).2.1 (tk1 q.1 (zBH q.2.1 q.2.2)).2.2.1,(false,[.v (.bool (tk1 q.1 (zBH q.2.1 q.2.2)).2.2.2)])])
theorem zYD:zBh Tryz.prog 130 zSk:=by
 intro w vs al c rs aA hc E ys ho hy;obtain⟨⟨p,b,d⟩,e,hn,rfl⟩:∃q:zF×Int×ByteArray,(true,poV q.1) :: [(true,[.v (.int .i64 q.2.1),.v n0,.v (.string q.2.2)])]=(true,vs) :: al/\q.1.n<=1000000/\[poO (tk1 q.1 (zBH q.2.1 q.2.2)).1,pT (tk1 q.1 (zBH q.2.1 q.2.2)).2.1 (tk1 q.1 (zBH q.2.1 q.2.2)).2.2.1,(false,[.v (.bool (tk1 q.1 (zBH q.2.1 q.2.2)).2.2.2)])]=rs:=by
  unfold zSk qZ at aA;split at aA
  ·rename_i hx
   cases aA;exact⟨_,hx.choose_spec,hc,rfl⟩
  ·cases aA
 simp only[List.cons.injEq,Prod.mk.injEq,true_and]at e;obtain⟨rfl,rfl⟩:=e;refine zMN w (poV p) [slZ (zBH b d)] _ _ (zQ7 p (zBH b d)) hn E ys ho ?_;cases hy with
 | cons h1 t=>
  cases t;obtain⟨cs,e,h1⟩:=h1;refine .cons ⟨cs,e,?_⟩ .nil;cases h1 with
  | cons k1 k2=>
   cases k2 with
   | cons k2 k3=>exact .cons k1 (.cons ⟨none,0,k2.1,Nat.le_refl _,fun h0=>absurd h0 (Nat.lt_irrefl _)⟩ k3)
noncomputable def mTk:zW:=orSp zXG zSk
theorem zaU:zBh Tryz.prog 130 mTk:=zXb zMN zYD
theorem zXH(p:zF)(b:Int)(n:Nat)(ks kb:Nat->Int)(d:ByteArray):mTk [(true,poV p),(true,[.v (.int .i64 b),.s .z 2 n (ptrsT ks kb),.v (.string d)])]=some (p.n<=1000000,[poO (tk1 p ⟨b,n,ks,kb,d⟩).1,pT (tk1 p ⟨b,n,ks,kb,d⟩).2.1 (tk1 p ⟨b,n,ks,kb,d⟩).2.2.1,(false,[.v (.bool (tk1 p ⟨b,n,ks,kb,d⟩).2.2.2)])]):=zXa (zQ7 p ⟨b,n,ks,kb,d⟩)
theorem zY6(p:zF)(b:Int)(d:ByteArray):mTk [(true,poV p),(true,[.v (.int .i64 b),.v n0,.v (.string d)])]=some (p.n<=1000000,[poO (tk1 p (zBH b d)).1,pT (tk1 p (zBH b d)).2.1 (tk1 p (zBH b d)).2.2.1,(false,[.v (.bool (tk1 p (zBH b d)).2.2.2)])]):=by
 refine zXc (zOV fun x h=>?_) (zO (fun l=>(zEt (nth l 0 0) (nth l 0 1),qg (nth l 1 0),zEA (nth l 1 2))) (fun _=>rfl) (p,b,d));simp at h
end Go.Proofs.YtbplmbafodlboaaGreatDoor
