/- A part of the proof. -/
import Derived.Test.YtmgeglgboadfiaaGreatDoorU11
set_option linter.unusedVariables false
set_option maxRecDepth 20000
set_option maxHeartbeats 4000000
namespace Go.Proofs.YtmgeglgboadfiaaGreatDoor
open Go.RowKit
theorem zNk{w:World}{b off n:Nat}{f:Nat->zO}{cv:Nat->Value}(h:∀i,i<n->w.cell? ⟨b,off+i*3,none⟩=some (.int .i64 (f i).zPI)/\w.cell? ⟨b,off+i*3+1,none⟩=some (cv i)/\w.cell? ⟨b,off+i*3+2,none⟩=some (.string (f i).data)) :
  ∀j u,(sc f cv n)[j]?=some u->w.cell? ⟨b,off+j,none⟩=some u:=by
 intro j u hj;have aA:j<n*3:=by
  have:=(List.getElem?_eq_some_iff.1 hj).1
  rwa [zGz]at this
 obtain⟨c0,c1,c2⟩:=h (j / 3) (by omega);have e:=zGy f cv n (j / 3) (j % 3) (by omega) (by omega);rw[show j / 3*3+j % 3=j by omega,hj]at e;rcases(by omega:j % 3=0\/j % 3=1\/j % 3=2)with hm | hm | hm
 ·rw[hm]at e;simp at e;subst e;rw[show off+j=off+j / 3*3 by omega];exact c0
 ·rw[hm]at e;simp at e;subst e;rw[show off+j=off+j / 3*3+1 by omega];exact c1
 ·rw[hm]at e;simp at e;subst e;rw[show off+j=off+j / 3*3+2 by omega];exact c2
theorem qG.values{w:World}{lo hi:Nat}{a:Option Addr}{n c:Nat}{f:Nat->zO}(h:qG w lo hi (.slice a n c) n f) :
  ∃cv:Nat->Value,(∀i,i<n->qT w lo hi (.int .i64 (f i).zPI) (cv i) (.string (f i).data) (f i))/\
   (0<n->∃b off,a=some ⟨b,off,none⟩/\lo<=b/\b<hi/\∀j u,(sc f cv n)[j]?=some u->w.cell? ⟨b,off+j,none⟩=some u):=by
 obtain⟨_,a0,c0,h0,_,g⟩:=h;simp only[Value.slice.injEq,true_and]at h0;obtain⟨rfl,rfl⟩:=h0;by_cases hn:0<n
 ·obtain⟨b,off,ha,bA,cA,hc⟩:=g hn;have dA:∀i,∃x,i<n->(w.cell? ⟨b,off+i*3,none⟩=some (.int .i64 (f i).zPI)/\w.cell? ⟨b,off+i*3+1,none⟩=some x/\w.cell? ⟨b,off+i*3+2,none⟩=some (.string (f i).data))/\qT w lo hi (.int .i64 (f i).zPI) x (.string (f i).data) (f i):=fun i=>by
   by_cases hi:i<n
   ·obtain⟨v0,v1,v2,q0,q1,q2,hs⟩:=hc i hi;have eA:=hs;obtain⟨rfl,_,rfl,_⟩:=eA;exact⟨v1,fun _=>⟨⟨q0,q1,q2⟩,hs⟩⟩
   ·exact⟨.slice none 0 0,fun h=>absurd h hi⟩
  obtain⟨cv,aA⟩:=Classical.axiomOfChoice dA;exact⟨cv,fun i hi=>(aA i hi).2,fun _=>⟨b,off,ha,bA,cA,zNk fun i hi=>(aA i hi).1⟩⟩
 ·exact⟨fun _=>.slice none 0 0,fun i hi=>absurd hi (by omega),fun h=>absurd h hn⟩
theorem qT.zPO{w:World}{lo hi:Nat}{v0 v1 v2:Value}{s:zO}(h:qT w lo hi v0 v1 v2 s):∃ka kc,v1 = .slice ka s.kn kc:=by
 obtain⟨_,⟨_,ka,kc,h,_⟩,_⟩:=h;exact⟨ka,kc,h⟩
structure zHP (wr:World) (bs n k:Nat) (f:Nat->zO) (kb:Nat->Nat) (kv cv:Nat->Value):Prop where
 cells:∀j,j<n->zQ wr bs (j*3) (.int .i64 (f j).zPI)/\zQ wr bs (j*3+1) (if j<k then kv j else cv j)/\zQ wr bs (j*3+2) (.string (f j).data)
 kids:∀j,j<k->zj wr (kb j) (kv j) (f j).kn (f j).ks (f j).kb
 zPM:∀j,j<k->0<(f j).kn->bs<kb j/\kb j<wr.heap.size
 zPJ:yJ kb k f
theorem zHP.zO9{wr w':World}{bs n k:Nat}{f:Nat->zO}{kb:Nat->Nat}{kv cv:Nat->Value}(h:zHP wr bs n k f kb kv cv)(t:Below wr.heap.size wr w'):zHP w' bs n k f kb kv cv:=
 ⟨fun j hj=>⟨(h.cells j hj).1.zO9 t,(h.cells j hj).2.1.zO9 t,(h.cells j hj).2.2.zO9 t⟩,fun j hj=>(h.kids j hj).zO9 t,fun j hj h0=>by have:=h.zPM j hj h0;have:=t.size;omega,h.zPJ⟩
theorem zHP.next{wr w1:World}{bs n k b:Nat}{f:Nat->zO}{kb:Nat->Nat}{kv cv:Nat->Value}{v:Value}(h:zHP wr bs n k f kb kv cv)(hk:k<n)(bA:bs<wr.heap.size)(t:Below wr.heap.size wr w1)
  (hp:zj w1 b v (f k).kn (f k).ks (f k).kb) (hb:0<(f k).kn->wr.heap.size<=b/\b<w1.heap.size) :
  zHP (((w1.setCell ⟨bs,k*3,none⟩ (.int .i64 (f k).zPI)).setCell ⟨bs,k*3+1,none⟩ v).setCell ⟨bs,k*3+2,none⟩ (.string (f k).data)) bs n (k+1) f (fun j=>if j=k then b else kb j) (fun j=>if j=k then v else kv j) cv:=by
 have h':=h.zO9 t;refine⟨fun j hj=>?_,fun j hj=>?_,fun j hj h0=>?_,fun i j hi hj aA h1 h2=>?_⟩
 ·obtain⟨c0,c1,c2⟩:=h'.cells j hj;by_cases e:j=k
  ·subst e;rw[if_pos (by omega),if_pos rfl];exact⟨((c0.set _).zPA _ (Or.inr (by omega))).zPA _ (Or.inr (by omega)),((c1.zPA _ (Or.inr (by omega))).set _).zPA _ (Or.inr (by omega)),((c2.zPA _ (Or.inr (by omega))).zPA _ (Or.inr (by omega))).set _⟩
  ·rw[if_neg e];have es:(if j<k+1 then kv j else cv j)=if j<k then kv j else cv j:=by
    by_cases e2:j<k
    ·rw[if_pos e2,if_pos (by omega)]
    ·rw[if_neg e2,if_neg (by omega)]
   rw[es];exact⟨((c0.zPA _ (Or.inr (by omega))).zPA _ (Or.inr (by omega))).zPA _ (Or.inr (by omega)),((c1.zPA _ (Or.inr (by omega))).zPA _ (Or.inr (by omega))).zPA _ (Or.inr (by omega)),((c2.zPA _ (Or.inr (by omega))).zPA _ (Or.inr (by omega))).zPA _ (Or.inr (by omega))⟩
 ·by_cases e:j=k
  ·subst e;simp only[if_true];refine((hp.zPF (zF.put _ _ _ _) ?_).zPF (zF.put _ _ _ _) ?_).zPF (zF.put _ _ _ _) ?_
   all_goals exact fun h0 hx=>by have:=hb h0;omega
  ·simp only[if_neg e];refine(((h'.kids j (by omega)).zPF (zF.put _ _ _ _) ?_).zPF (zF.put _ _ _ _) ?_).zPF (zF.put _ _ _ _) ?_
   all_goals exact fun h0 hx=>by have:=h'.zPM j (by omega) h0;omega
 ·simp only[World.size_setCell];by_cases e:j=k
  ·subst e;rw[if_pos rfl];have:=hb h0;omega
  ·rw[if_neg e];have:=h'.zPM j (by omega) h0;omega
 ·show(if i=k then b else kb i)≠(if j=k then b else kb j);by_cases e1:i=k
  ·by_cases e2:j=k
   ·omega
   ·rw[if_pos e1,if_neg e2];subst e1;have:=hb h1;have:=h.zPM j (by omega) h2;omega
  ·by_cases e2:j=k
   ·rw[if_neg e1,if_pos e2];subst e2;have:=hb h2;have:=h.zPM i (by omega) h1;omega
   ·rw[if_neg e1,if_neg e2];exact h.zPJ i j (by omega) (by omega) aA h1 h2
theorem zHP.own{wr:World}{bs n:Nat}{f:Nat->zO}{kb:Nat->Nat}{kv cv:Nat->Value}{a:Option Addr}{c:Nat}(h:zHP wr bs n n f kb kv cv)(hm:n<=maxLen)(ha:0<n->a=some ⟨bs,0,none⟩)(hc:n<=c)(hs:∀j,j<n->(f j).data.size<=maxLen):qO wr bs kb kv (.slice a n c) n f:=
 ⟨hm,a,c,rfl,hc,fun h0=>⟨0,ha h0,fun i hi=>by
  obtain⟨c0,c1,c2⟩:=h.cells i hi;rw[if_pos hi]at c1;rw[Nat.zero_add];exact⟨c0,c1,c2,h.kids i hi,hs i hi,fun hk e=>by have:=h.zPM i hi hk;omega⟩⟩⟩
theorem zDO(v:Value)(n lo hi:Nat)(f:Nat->zO)(w:World)(h1:qG w lo hi v n f)(hn:n<=1048576)(hk:∀j,j<n->(f j).kn<=1048576) :
  Calls Tryz.prog 193 #[v] w fun e w'=>∃v' bs kb kv,e = .returned v'/\qO w' bs kb kv v' n f/\yJ kb n f/\(∀k,yV bs kb n f k->w.heap.size<=k/\k<w'.heap.size)/\Below w.heap.size w w':=by
 have Hm:=zi h1.1;have q1:=h1;obtain⟨_,a,c,rfl,_,_⟩:=h1;obtain⟨cv,bA,mA⟩:=q1.values;have pA:=zi bA;have Hk:=zi hk;have dA:0<n->∃b off,a=some ⟨b,off,none⟩/\∀j u,(sc f cv n)[j]?=some u->w.cell? ⟨b,off+j,none⟩=some u:=fun h0=>by
  obtain⟨b,off,h2,_,_,h3⟩:=mA h0;exact⟨b,off,h2,h3⟩
 have kA:=zOj f cv n (fun i hi=>by obtain⟨ka,kc,e⟩:=(bA i hi).zPO;rw[e];rfl);clear bA hk q1 mA;go_enter Tryz.func193,Tryz.ntmps193;go_wp2_with fail;refine(zGP a n c (sc f cv n) w (zGz _ _ _) kA hn dA).mono ?_;rintro e w1 ⟨v',rfl,eA,bB,_⟩;obtain⟨a1,c1,rfl,eB⟩:=za eA;clear kA dA;have oA:∃bs,(0<n->a1=some ⟨bs,0,none⟩/\w.heap.size<=bs/\bs<w1.heap.size)/\zHP w1 bs n 0 f (fun _=>0) cv cv:=by
  by_cases h0:0<n
  ·obtain⟨g,cap,hv,_,jA,tA,aA⟩:=yK eA h0;simp only[Value.slice.injEq,true_and]at hv;obtain⟨rfl,rfl⟩:=hv;refine⟨g,fun _=>⟨rfl,jA,tA⟩,fun j hj=>⟨?_,?_,?_⟩,fun j hj=>absurd hj (Nat.not_lt_zero _),fun j hj=>absurd hj (Nat.not_lt_zero _),fun i j hi=>absurd hi (Nat.not_lt_zero _)⟩
   ·have:=aA (j*3+0) _ (zGy f cv n j 0 hj (by omega));simpa using this
   ·have:=aA (j*3+1) _ (zGy f cv n j 1 hj (by omega));simpa using this
   ·have:=aA (j*3+2) _ (zGy f cv n j 2 hj (by omega));simpa using this
  ·exact⟨0,fun h=>absurd h h0,fun j hj=>absurd hj (by omega),fun j hj=>absurd hj (Nat.not_lt_zero _),fun j hj=>absurd hj (Nat.not_lt_zero _),fun i j hi=>absurd hi (Nat.not_lt_zero _)⟩
 obtain⟨bs,oA,cA⟩:=oA;have nA:=zi oA;have gA:=zi cA;clear eA oA cA;go_wp2
 go_loopw [4,5,10] (fun _ _ i wr=>∃(k:Nat) (kb:Nat->Nat) (kv:Nat->Value),k<=n/\i = .int .i64 k/\zHP wr bs n k f kb kv cv/\Below w.heap.size w wr/\w1.heap.size<=wr.heap.size) (fun _ _ i _=>n - (intOf i).toNat)
 case atStart=>exact⟨0,_,_,Nat.zero_le _,rfl,gA.out,bB,Nat.le_refl _⟩
 case round=>
  obtain⟨k,kb,kv,hk,rfl,hh,hb,hz⟩:=hrel;have Hh:=zi hh;clear hh;by_cases fA:k<n
  ·have dB:(k:Int)<(n:Int):=(by omega);obtain⟨rfl,jA,tA⟩:=nA.out (by omega);obtain⟨ka,kc,bA⟩:=(pA.out k fA).zPO;have aB:Hid (qT wr lo hi (.int .i64 (f k).zPI) (.slice ka (f k).kn kc) (.string (f k).data) (f k)):=by
    have:=(pA.out k fA).zO9 hb;rw[bA]at this;exact this
   obtain⟨⟨q0,r0⟩,q1,⟨q2,r2⟩⟩:=Hh.out.cells k fA;rw[if_neg (by omega),bA]at q1;obtain⟨q1,r1⟩:=q1;go_wp2_with fail;have ha:=zC wr (.cells #[.int .i64 (f k).zPI,.slice ka (f k).kn kc,.string (f k).data] 127);refine(zHW _ _ _ lo hi (f k) _ (aB.out.zO9 ha) (Hk.out k fA)).mono ?_;rintro e w2 ⟨nv,nb,rfl,rA,lA,sA⟩;obtain⟨_,na,nc,rfl,_⟩:=id rA;have iA:=zA ha sA;have vA:=zi (Hh.out.next fA (by omega) iA rA (fun h0=>by have:=lA h0;rw[World.size_alloc]at this;omega));have cB:=zA hb iA;have fB:=iA.size;clear q0 q1 q2 r0 r1 r2;obtain⟨⟨q0,r0⟩,q1,⟨q2,r2⟩⟩:=(Hh.out.zO9 iA).cells k fA;rw[if_neg (by omega),bA]at q1;obtain⟨q1,r1⟩:=q1;clear rA lA sA ha iA bA;go_wp2;go_roundw
   case rel=>exact⟨k+1,_,_,by omega,by go_num,vA.out,((cB.setCell jA _).setCell jA _).setCell jA _,by simp only[World.size_setCell];omega⟩
   case measure=>simp[intOf];omega
  ·obtain rfl:k=n:=(by omega);go_wp2;go_ret;refine⟨_,bs,kb,kv,rfl,Hh.out.own Hm.out (fun h0=>(nA.out h0).1) eB (fun j hj=>(pA.out j hj).2.2.2),Hh.out.zPJ,fun j hj=>?_,hb⟩;rcases hj with⟨h0,rfl⟩ | ⟨i,hi,h0,rfl⟩
   ·have:=nA.out h0;omega
   ·have:=nA.out (by omega);have:=Hh.out.zPM i hi h0;omega
theorem zD6(v0 v1:Value)(lo hi:Nat)(p:zN)(w:World)(h1:qS w lo hi v0 v1 p)(hn:yL p<=1048576):Calls Tryz.prog 168 #[.agg #[v0,v1]] w (zIc p w):=by
 have Hp:=zi h1;obtain⟨⟨m1,a,c,rfl,mc,g1⟩,⟨m2,a',c',rfl,fB,g2⟩⟩:=h1;have Hm:=zi (And.intro m1 m2);clear g1 g2 m1 m2;unfold yL at hn;have Hn:Hid (∀j,j<p.n->(p.s j).kn<=1048576):=fun j hj=>by have h2:=zFA p.s hj;unfold zCE at h2;omega
 have aB:p.n<=1048576:=by omega
 have bB:p.hn<=1048576:=by omega
 clear hn;have nA:=zC w (.cells #[.slice a p.n c,.slice a' p.hn c'] 33);have iA:=zA nA (zC _ (.cells #[.slice none 0 0,.slice none 0 0] 33));have HB:=zi ((zp.new w (.slice a p.n c) (.slice a' p.hn c') 33).zO9 (zC _ (.cells #[.slice none 0 0,.slice none 0 0] 33)));have lA:=zp.new (w.alloc (.cells #[.slice a p.n c,.slice a' p.hn c'] 33)) (.slice none 0 0) (.slice none 0 0) 33;rw[World.size_alloc]at lA;have HR:=zi lA;clear nA lA;go_enter Tryz.func168,Tryz.ntmps168;go_wp2_with fail;generalize hW:(w.alloc (.cells #[.slice a p.n c,.slice a' p.hn c'] 33)).alloc (.cells #[.slice none 0 0,.slice none 0 0] 33)=W at HB HR iA ⊢;have hz:W.heap.size=w.heap.size+2:=by rw[<-hW,World.size_alloc,World.size_alloc]
 clear hW;obtain⟨⟨x0,x1⟩,⟨x2,x3⟩⟩:=HB.out;obtain⟨⟨y0,y1⟩,⟨y2,y3⟩⟩:=HR.out;go_region_held3 (fun w'=>w'.cell? ⟨w.heap.size,0,none⟩=some (.slice a p.n c)/\w'.cell? ⟨w.heap.size,1,none⟩=some (.slice a' p.hn c')) (go_keep)
  (first
   | (go_at_call 193;refine(zDO _ p.n lo hi p.s _ ?_ aB Hn.out).mono ?_;(exact Hp.out.1.zO9 iA.drew);rintro e w1 ⟨v',bs,kb,kv,rfl,ho,oA,rA,pA⟩;obtain⟨_,sa,kA,rfl,_⟩:=id ho;have aA:=zI pA;obtain⟨⟨z0,z1⟩,⟨z2,z3⟩⟩:=HB.out.zO9 aA)
   | (go_at_call 211;refine(zHU _ _ _ (ic p.h p.hn) _ (zBD _ _) (zNH _ _) bB ?_).mono ?_;(exact zI9 Hp.out.2 rfl (zA iA aA));rintro e w2 ⟨v',rfl,dA,gA,cB⟩;obtain⟨ia,jA,rfl,_⟩:=za dA;have bA:=zA aA gA;obtain⟨⟨z4,z5⟩,⟨z6,z7⟩⟩:=HB.out.zO9 bA;have sA:=zi (HR.out.zO9 bA);obtain⟨⟨z8,z9⟩,⟨gB,iB⟩⟩:=HR.out.zO9 bA))
 obtain⟨hb,fA,cA⟩:=zIu Hm.out.2 dA cB;have dB:W.heap.size<=w1.heap.size:=aA.size;have eB:w1.heap.size<=w2.heap.size:=gA.size;have eA:∀k,yV bs kb p.n p.s k->W.heap.size<=k/\k<w1.heap.size:=rA;have tA:Hid (qF w2 (w.heap.size+2) w2.heap.size (.slice sa p.n kA) (.slice ia p.hn jA) p):=by
  refine⟨bs,hb,kb,kv,ho.zO9 gA,oA,fA,fun h0 hx=>?_,fun k hk=>?_⟩
  ·have:=eA _ hx;have:=cA h0;omega
  ·rcases hk with hk | ⟨h0,rfl⟩
   ·have:=eA _ hk;omega
   ·have:=cA h0;omega
 have vA:=zA iA bA;clear fA cA rA eA ho oA dA pA aA gA bA;go_wp2;have mA:=sA.out.put (.slice sa p.n kA) (.slice ia p.hn jA);refine bodyPost_ret (v:=.agg #[.slice sa p.n kA,.slice ia p.hn jA]) (by simp[results,Tryz.results168,go_sem,mA.1.1,mA.2.1]) rfl ⟨_,_,rfl,?_,?_⟩
 ·have t:=(zF.put w2 (w.heap.size+1) 0 (.slice sa p.n kA)).trans (zF.put _ (w.heap.size+1) 1 (.slice ia p.hn jA));have hz:=t.size;exact(tA.out.zPF t (fun k hk=>by omega)).wide (by omega) hz
 ·exact(vA.setCell (by show _<=w.heap.size+1;omega) _).setCell (by show _<=w.heap.size+1;omega) _
def yU(w:World)(e:TypeId)(s:Nat)(v:Value)(n:Nat):Prop:=
 (n=0/\∃a,v = .slice a 0 0)\/(0<n/\∃g cap cur,v = .slice (some ⟨g,0,none⟩) n cap/\w.heap[g]?=some (.cells cur e (0,0))/\n<=cap/\cap<=maxLen/\cur.size=cap*s)
theorem qy{w:World}{base:Nat}{e:TypeId}{s:Nat}{v:Value}{n:Nat}{xs:List Value}(h:w.ownsRow base e s v n xs)(hz:n=0->∃a,v = .slice a 0 0):yU w e s v n:=by
 rcases Nat.eq_zero_or_pos n with h0 | h0
 ·exact Or.inl ⟨h0,hz h0⟩
 ·rcases h.2 with h | ⟨g,cap,aA,hv,_,hg,h1,h2,h3,_⟩
  ·omega
  ·exact Or.inr ⟨h0,g,cap,aA,hv,hg,h1,h2,h3⟩
theorem yU.zO9{w w':World}{e:TypeId}{s:Nat}{v:Value}{n:Nat}(h:yU w e s v n)(t:Below w.heap.size w w'):yU w' e s v n:=by
 rcases h with h | ⟨h0,g,cap,aA,hv,hg,h1⟩
 ·exact Or.inl h
 ·exact Or.inr ⟨h0,g,cap,aA,hv,(t.block g (Array.getElem?_eq_some_iff.1 hg).1).trans hg,h1⟩
theorem zHT{w:World}{g:Nat}{bA:Array Value}{e:TypeId}(h:w.heap[g]?=some (.cells bA e (0,0)))(a:Addr)(u:Value):∃aA,(w.setCell a u).heap[g]?=some (.cells aA e (0,0))/\aA.size=bA.size:=by
 by_cases hg:a.block=g
 ·subst hg;unfold World.setCell;simp only[Array.getElem?_modify,h,if_true,Option.map_some];refine⟨_,rfl,?_⟩;split<;>simp
 ·refine⟨bA,?_,rfl⟩;unfold World.setCell;simp only[Array.getElem?_modify,hg,if_false,h]
theorem yU.set{w:World}{e:TypeId}{s:Nat}{v:Value}{n:Nat}(h:yU w e s v n)(a:Addr)(u:Value):yU (w.setCell a u) e s v n:=by
 rcases h with h | ⟨h0,g,cap,cA,hv,hg,h1,h2,h3⟩
 ·exact Or.inl h
 ·obtain⟨aA,bA,hs⟩:=zHT hg a u;exact Or.inr ⟨h0,g,cap,aA,hv,bA,h1,h2,by rw[hs];exact h3⟩
theorem yU.owns{w:World}{e:TypeId}{s:Nat}{v:Value}{n base:Nat}{xs:List Value}(h:yU w e s v n)(h0:0<n)(hl:xs.length=n*s)(hb:∀g,v.ownBlock=some g->base<=g)
  (hc:∀g,v.ownBlock=some g->∀j u,xs[j]?=some u->w.cell? ⟨g,j,none⟩=some u):w.ownsRow base e s v n xs:=by
 refine⟨hl,?_⟩;rcases h with h | ⟨_,g,cap,aA,hv,hg,h1,h2,h3⟩
 ·omega
 ·refine Or.inr ⟨g,cap,aA,hv,hb g (by rw[hv];rfl),hg,h1,h2,h3,?_⟩;have bA:n*s<=aA.size:=(by rw[h3];exact Nat.mul_le_mul_right s h1);refine List.ext_getElem? fun j=>?_
  rw[List.getElem?_take];by_cases hj:j<n*s
  ·rw[if_pos hj];have hx:j<xs.length:=(by omega);have h4:=hc g (by rw[hv];rfl) j xs[j] (by rw[List.getElem?_eq_getElem hx]);have h5:w.cell? ⟨g,j,none⟩=aA[j]?:=by
    simp[World.cell?,hg]
   rw[h5]at h4;rw[List.getElem?_eq_getElem hx,<-h4,Array.getElem?_toList]
  ·rw[if_neg hj,List.getElem?_eq_none (by omega)]
theorem zC9{P:Program}{w:World}(t ty e:TypeId)(i:TypeInfo)(a:Option Addr)(ad:Addr)(m c:Nat)(ht:P.underlying t=some (.slice e))(hi:P.info? e=some i)(hm:0<m)(hb:m*i.bytes<=140737488355328) :
  (Builtin.append_ #[t,t] ty #[.slice a 0 0,.slice (some ad) m c]).run P w=(Builtin.append_ #[t,t] ty #[.slice none 0 0,.slice (some ad) m c]).run P w:=by
 cases a with
 | none=>rfl
 | some a=>
  have h1:¬m=0:=(by omega);have h2:Builtin.nextslicecap m 0=m:=(by unfold Builtin.nextslicecap;simp[hm]);have h3:¬(281474976710656:Nat)<m*i.bytes:=(by omega);have h4:∀w:World,(loadCells a 0).run P w = .ok #[] w:=fun w=>by first | rfl | simp[loadCells] | simp[loadCells,loadCellsFrom]
  simp[Builtin.append_,run_underlying ht,sizeOf,typeInfo,hi,Builtin.lenOf,Builtin.firstCells,h1,h2,h3,h4]
theorem yU.append{P:Program}{w:World}(t ty e:TypeId)(i:TypeInfo)(z:Value)(s bytes base:Nat)(ht:P.underlying t=some (.slice e))(hi:P.info? e=some i)(hz:i.zero=some z)(eA:i.size=s)(fA:i.bytes=bytes)(kA:z.cells.size=s)(jA:0<s)
  {v:Value} {n:Nat} {xs:List Value} (h:yU w e s v n) (hl:xs.length=n*s) (hb:0<n->∀g,v.ownBlock=some g->base<=g) (hc:0<n->∀g,v.ownBlock=some g->∀j u,xs[j]?=some u->w.cell? ⟨g,j,none⟩=some u)
  (ad:Addr) (m c:Nat) (bA:List Value) (iA:bA.length=m*s) (dA:∀j u,bA[j]?=some u->w.cell? (ad.add j)=some u) (h1:∀u∈bA,u.oneCell'=true) (hm:0<m) (gA:n+m<=maxLen) (aA:(n+m)*bytes<=140737488355328) (cA:base<=w.heap.size) :
  ∃g cap w' row,(Builtin.append_ #[t,t] ty #[v,.slice (some ad) m c]).run P w = .ok (.slice (some ⟨g,0,none⟩) (n+m) cap) w'/\w'.ownsRow base e s (.slice (some ⟨g,0,none⟩) (n+m) cap) (n+m) (xs ++ bA)/\w.grownBy w' row/\(row=none\/(0<n/\row=v.ownBlock))/\((0<n/\v.ownBlock=some g)\/g=w.heap.size)/\g<w'.heap.size:=by
 rcases Nat.eq_zero_or_pos n with h0 | h0
 ·rcases h with⟨_,a,rfl⟩ | ⟨hp,_⟩
  ·subst h0;obtain rfl:xs = []:=List.eq_nil_of_length_eq_zero (by omega);obtain⟨g,cap,w',hr,h2,h3,h4,h5⟩:=run_append_lies (P:=P) w t ty base e i z s bytes ht hi hz eA fA kA jA (.slice none 0 0) 0 [] ⟨by simp,Or.inl ⟨rfl,rfl⟩⟩ ad m c bA iA dA h1 hm gA aA cA w.heap.size rfl;refine⟨g,cap,w',none,?_,h2,h3,Or.inl rfl,Or.inr ?_,h5⟩
   ·rw[zC9 t ty e i a ad m c ht hi hm (by rw[fA];simpa using aA)];exact hr
   ·rcases h4 with h4 | h4
    ·cases h4
    ·exact h4
  ·omega
 ·obtain⟨g,cap,w',hr,h2,h3,h4,h5⟩:=run_append_lies (P:=P) w t ty base e i z s bytes ht hi hz eA fA kA jA v n xs (h.owns h0 hl (hb h0) (hc h0)) ad m c bA iA dA h1 hm gA aA cA w.heap.size rfl;exact⟨g,cap,w',v.ownBlock,hr,h2,h3,Or.inr ⟨h0,rfl⟩,h4.imp (fun h=>⟨h0,h⟩) id,h5⟩
theorem zDN(v:Value)(n lo hi:Nat)(f g:Nat->Int)(w:World)(h1:zR w lo hi v n f g)(hn:n<=1048576) :
  Calls Tryz.prog 171 #[v] w fun e w'=>(∃v' kb,e = .returned v'/\yU w' 61 2 v' n/\zj w' kb v' n f g/\(0<n->w.heap.size<=kb/\kb<w'.heap.size))/\Below w.heap.size w w':=by
 obtain⟨m1,a,c,rfl,mc,g1⟩:=h1;have G1:Hid (0<n->∃b off,a=some ⟨b,off,none⟩/\lo<=b/\b<hi/\∀i,i<n->w.cell? ⟨b,off+i*2,none⟩=some (.int .i64 (f i))/\w.cell? ⟨b,off+i*2+1,none⟩=some (.int .i64 (g i))):=g1;have Hm:Hid (n<=maxLen):=m1;clear g1 m1;have pA:=fun w=>Lib.run_eql_slice_nil (P:=Tryz.prog) w 62 61 a n c 0 0 (by kernel_rfl)
 cases a with
 | none=>
  have oA:n=0:=by
   by_cases h:0<n
   ·obtain⟨b,off,ha,_⟩:=G1.out h;simp at ha
   ·omega
  subst oA;go_enter Tryz.func171,Tryz.ntmps171;go_wp2;go_ret;exact⟨⟨_,0,rfl,Or.inl ⟨rfl,_,rfl⟩,⟨Nat.zero_le _,none,0,rfl,Nat.le_refl _,fun h=>absurd h (Nat.lt_irrefl _)⟩,fun h=>absurd h (Nat.lt_irrefl _)⟩,Below.refl _ _⟩
 | some ad=>
  obtain⟨i0,hi,lA⟩:=Option.map_eq_some_iff.1 zBS;simp only[Prod.mk.injEq]at lA;obtain⟨hz,hs,kA⟩:=lA;have iA:∀(w':World),Below w.heap.size w w'->∀j u,(kc f g n)[j]?=some u->w'.cell? (ad.add j)=some u:=fun w' hb j u hj=>by
   by_cases h0:0<n
   ·obtain⟨b,off,ha,_,_,hc⟩:=G1.out h0;simp only[Option.some.injEq]at ha;subst ha;have:=zEx hc j u hj;have fA:(⟨b,off,none⟩:Addr).add j=⟨b,off+j,none⟩:=(by unfold Addr.add;split<;>simp_all);rw[fA]at this ⊢;exact(hb.cell (zD this)).trans this
   ·obtain rfl:n=0:=(by omega);simp[kc]at hj
  have jA:Hid (∀(w':World),Below w.heap.size w w'->∀j u,(kc f g n)[j]?=some u->w'.cell? (ad.add j)=some u):=iA;have HI:Hid (Tryz.prog.info? 61=some i0/\i0.zero=some (.agg #[.int .i64 0,.int .i64 0])/\i0.size=2/\i0.bytes=16):=⟨hi,hz,hs,kA⟩;have eA:(w.alloc (.cells #[] 61)).ownsRow w.heap.size 61 2 (.slice (some ⟨w.heap.size,0,none⟩) 0 0) 0 []:=World.ownsRow_made w #[] 0 (Nat.le_refl _) (Nat.zero_le _) (by simp);have bA:Hid ((w.alloc (.cells #[] 61)).ownsRow w.heap.size 61 2 (.slice (some ⟨w.heap.size,0,none⟩) 0 0) 0 []):=eA;clear hi hz hs kA iA eA;go_enter Tryz.func171,Tryz.ntmps171;go_wp2_with (first
   | (at_builtin;refine qR rfl _ _ 62 rfl w.heap.size 61 i0 (.agg #[.int .i64 0,.int .i64 0]) 2 16 (by kernel_rfl) HI.out.1 HI.out.2.1 HI.out.2.2.1 HI.out.2.2.2 rfl (by decide) _ _ _ rfl bA.out (some ad) n c (kc f g n) rfl (zDU f g n) (zIv f g n) ?c1 ?c3 ?c4 ?c5 ?_))
  case c1=>
   intro h0;obtain⟨b,off,ha,_,_,_⟩:=G1.out h0;simp only[Option.some.injEq]at ha;refine⟨b,off,by rw[ha],fun j u hj=>?_⟩;have:=jA.out _ ((Below.refl _ _).alloc (Nat.le_refl _) (.cells #[] 61)) j u hj;have fA:(⟨b,off,none⟩:Addr).add j=⟨b,off+j,none⟩:=(by unfold Addr.add;split<;>simp_all);rw[ha,fA]at this;exact this
  case c3=>unfold maxLen;omega
  case c4=>omega
  case c5=>simp
  intro v' w1 dA cA gA;have nA:Below w.heap.size w w1:=((Below.refl _ _).alloc (Nat.le_refl _) _).grown cA (by simp) (fun q hq=>by have:=bA.out.lt q hq;omega);have aA:w1.ownsRow w.heap.size 61 2 v' n (kc f g n):=(by simpa using dA);obtain⟨kb,hp,hk⟩:=zBf Hm.out aA;have mA:Hid (yU w1 61 2 v' n):=qy aA (fun h0=>⟨_,gA h0⟩);have Hp:Hid (zj w1 kb v' n f g/\(0<n->w.heap.size<=kb/\kb<w1.heap.size)):=⟨hp,hk⟩;clear hp hk dA aA cA gA;go_wp2;go_ret;exact⟨⟨v',kb,rfl,mA.out,Hp.out.1,Hp.out.2⟩,nA⟩
def zB6(w:World)(b:Nat)(v0 v1 v2 v3 v4 v5 v6 v7:Value):Prop:=zQ w b 0 v0/\zQ w b 1 v1/\zQ w b 2 v2/\zQ w b 3 v3/\zQ w b 4 v4/\zQ w b 5 v5/\zQ w b 6 v6/\zQ w b 7 v7
theorem zB6.zO9{w w':World}{b:Nat}{v0 v1 v2 v3 v4 v5 v6 v7:Value}(h:zB6 w b v0 v1 v2 v3 v4 v5 v6 v7)(t:Below w.heap.size w w'):zB6 w' b v0 v1 v2 v3 v4 v5 v6 v7:=⟨h.1.zO9 t,h.2.1.zO9 t,h.2.2.1.zO9 t,h.2.2.2.1.zO9 t,h.2.2.2.2.1.zO9 t,h.2.2.2.2.2.1.zO9 t,h.2.2.2.2.2.2.1.zO9 t,h.2.2.2.2.2.2.2.zO9 t⟩
theorem zB6.new(w:World)(v0 v1 v2 v3 v4 v5 v6 v7:Value)(t:TypeId):zB6 (w.alloc (.cells #[v0,v1,v2,v3,v4,v5,v6,v7] t)) w.heap.size v0 v1 v2 v3 v4 v5 v6 v7:=by
 have hb:(w.alloc (.cells #[v0,v1,v2,v3,v4,v5,v6,v7] t)).heap[w.heap.size]?=some (.cells #[v0,v1,v2,v3,v4,v5,v6,v7] t):=heap_alloc_new _ _;exact⟨zH hb rfl,zH hb rfl,zH hb rfl,zH hb rfl,zH hb rfl,zH hb rfl,zH hb rfl,zH hb rfl⟩
abbrev zO1(w:World)(b:Nat)(u0 u1 u2 u3 u4 u5 u6 u7:Value):World:=(((((((w.setCell ⟨b,0,none⟩ u0).setCell ⟨b,1,none⟩ u1).setCell ⟨b,2,none⟩ u2).setCell ⟨b,3,none⟩ u3).setCell ⟨b,4,none⟩ u4).setCell ⟨b,5,none⟩ u5).setCell ⟨b,6,none⟩ u6).setCell ⟨b,7,none⟩ u7
theorem zB6.put{w:World}{b:Nat}{v0 v1 v2 v3 v4 v5 v6 v7:Value}(h:zB6 w b v0 v1 v2 v3 v4 v5 v6 v7)(u0 u1 u2 u3 u4 u5 u6 u7:Value):zB6 (zO1 w b u0 u1 u2 u3 u4 u5 u6 u7) b u0 u1 u2 u3 u4 u5 u6 u7:=by
 obtain⟨h0,h1,h2,h3,h4,h5,h6,h7⟩:=h;refine⟨?_,?_,?_,?_,?_,?_,?_,?_⟩
 ·exact(((((((h0.set _).zPA _ (Or.inr (by omega))).zPA _ (Or.inr (by omega))).zPA _ (Or.inr (by omega))).zPA _ (Or.inr (by omega))).zPA _ (Or.inr (by omega))).zPA _ (Or.inr (by omega))).zPA _ (Or.inr (by omega))
 ·exact(((((((h1.zPA _ (Or.inr (by omega))).set _).zPA _ (Or.inr (by omega))).zPA _ (Or.inr (by omega))).zPA _ (Or.inr (by omega))).zPA _ (Or.inr (by omega))).zPA _ (Or.inr (by omega))).zPA _ (Or.inr (by omega))
 ·exact(((((((h2.zPA _ (Or.inr (by omega))).zPA _ (Or.inr (by omega))).set _).zPA _ (Or.inr (by omega))).zPA _ (Or.inr (by omega))).zPA _ (Or.inr (by omega))).zPA _ (Or.inr (by omega))).zPA _ (Or.inr (by omega))
 ·exact(((((((h3.zPA _ (Or.inr (by omega))).zPA _ (Or.inr (by omega))).zPA _ (Or.inr (by omega))).set _).zPA _ (Or.inr (by omega))).zPA _ (Or.inr (by omega))).zPA _ (Or.inr (by omega))).zPA _ (Or.inr (by omega))
 ·exact(((((((h4.zPA _ (Or.inr (by omega))).zPA _ (Or.inr (by omega))).zPA _ (Or.inr (by omega))).zPA _ (Or.inr (by omega))).set _).zPA _ (Or.inr (by omega))).zPA _ (Or.inr (by omega))).zPA _ (Or.inr (by omega))
 ·exact(((((((h5.zPA _ (Or.inr (by omega))).zPA _ (Or.inr (by omega))).zPA _ (Or.inr (by omega))).zPA _ (Or.inr (by omega))).zPA _ (Or.inr (by omega))).set _).zPA _ (Or.inr (by omega))).zPA _ (Or.inr (by omega))
 ·exact(((((((h6.zPA _ (Or.inr (by omega))).zPA _ (Or.inr (by omega))).zPA _ (Or.inr (by omega))).zPA _ (Or.inr (by omega))).zPA _ (Or.inr (by omega))).zPA _ (Or.inr (by omega))).set _).zPA _ (Or.inr (by omega))
 ·exact(((((((h7.zPA _ (Or.inr (by omega))).zPA _ (Or.inr (by omega))).zPA _ (Or.inr (by omega))).zPA _ (Or.inr (by omega))).zPA _ (Or.inr (by omega))).zPA _ (Or.inr (by omega))).zPA _ (Or.inr (by omega))).set _
theorem zB6.off8{w:World}{b:Nat}{v0 v1 v2 v3 v4 v5 v6 v7:Value}(h:zB6 w b v0 v1 v2 v3 v4 v5 v6 v7){b':Nat}(o:Nat)(u:Value)(o':Nat)(u':Value)(aA:b'≠b):zB6 ((w.setCell ⟨b',o,none⟩ u).setCell ⟨b',o',none⟩ u') b v0 v1 v2 v3 v4 v5 v6 v7:=by
 obtain⟨h0,h1,h2,h3,h4,h5,h6,h7⟩:=h;have hc:∀{j:Nat} {v:Value},zQ w b j v->zQ ((w.setCell ⟨b',o,none⟩ u).setCell ⟨b',o',none⟩ u') b j v:=fun hc=>(hc.zPA _ (Or.inl aA)).zPA _ (Or.inl aA)
 exact⟨hc h0,hc h1,hc h2,hc h3,hc h4,hc h5,hc h6,hc h7⟩
theorem zB6.mid8{w:World}{b:Nat}{v0 v1 v2 v3 v4 v5 v6 v7:Value}(h:zB6 w b v0 v1 v2 v3 v4 v5 v6 v7)(u u':Value):zB6 ((w.setCell ⟨b,5,none⟩ u).setCell ⟨b,6,none⟩ u') b v0 v1 v2 v3 v4 u u' v7:=by
 obtain⟨h0,h1,h2,h3,h4,h5,h6,h7⟩:=h;exact⟨(h0.zPA _ (Or.inr (by omega))).zPA _ (Or.inr (by omega)),(h1.zPA _ (Or.inr (by omega))).zPA _ (Or.inr (by omega)),(h2.zPA _ (Or.inr (by omega))).zPA _ (Or.inr (by omega)),(h3.zPA _ (Or.inr (by omega))).zPA _ (Or.inr (by omega)),(h4.zPA _ (Or.inr (by omega))).zPA _ (Or.inr (by omega)),(h5.set _).zPA _ (Or.inr (by omega)),(h6.zPA _ (Or.inr (by omega))).set _,(h7.zPA _ (Or.inr (by omega))).zPA _ (Or.inr (by omega))⟩
def zAu(w:World)(S:Nat->Prop)(v:Value)(n:Nat)(f:Nat->zv):Prop:=∃(bs:Nat) (kb:Nat->Nat) (kv:Nat->Value),qm w bs kb kv v n f/\zAG kb n f/\(∀k,zA4 bs kb n f k->S k)/\yU w 67 6 v n/\∀i,i<n->yU w 61 2 (kv i) (f i).dn
def zAK(w:World)(S:Nat->Prop)(v:Value)(n:Nat)(f:Nat->zY):Prop:=∃(bs:Nat) (kb:Nat->Nat) (kv:Nat->Value),qI w bs kb kv v n f/\qw kb n f/\(∀k,yq bs kb n f k->S k)/\yU w 99 8 v n/\∀i,i<n->yU w 61 2 (kv i) (f i).dn
theorem zAu.isIn{w:World}{S:Nat->Prop}{v:Value}{n:Nat}{f:Nat->zv}(h:zAu w S v n f):yo w S v n f:=by
 obtain⟨bs,kb,kv,h1,h2,h3,_⟩:=h;exact⟨bs,kb,kv,h1,h2,h3⟩
theorem zAK.isIn{w:World}{S:Nat->Prop}{v:Value}{n:Nat}{f:Nat->zY}(h:zAK w S v n f):ym w S v n f:=by
 obtain⟨bs,kb,kv,h1,h2,h3,_⟩:=h;exact⟨bs,kb,kv,h1,h2,h3⟩
theorem zAu.set{w:World}{S:Nat->Prop}{v:Value}{n:Nat}{f:Nat->zv}(h:zAu w S v n f)(b o:Nat)(u:Value)(hb:¬S b):zAu (w.setCell ⟨b,o,none⟩ u) S v n f:=by
 obtain⟨bs,kb,kv,h1,h2,h3,h4,h5⟩:=h;exact⟨bs,kb,kv,h1.zPF (zF.put w b o u) (fun k hk e=>hb (e▸h3 k hk)),h2,h3,h4.set _ _,fun i hi=>(h5 i hi).set _ _⟩
theorem zAK.set{w:World}{S:Nat->Prop}{v:Value}{n:Nat}{f:Nat->zY}(h:zAK w S v n f)(b o:Nat)(u:Value)(hb:¬S b):zAK (w.setCell ⟨b,o,none⟩ u) S v n f:=by
 obtain⟨bs,kb,kv,h1,h2,h3,h4,h5⟩:=h;exact⟨bs,kb,kv,h1.zPF (zF.put w b o u) (fun k hk e=>hb (e▸h3 k hk)),h2,h3,h4.set _ _,fun i hi=>(h5 i hi).set _ _⟩
theorem zAu.put6{w:World}{S:Nat->Prop}{v:Value}{n:Nat}{f:Nat->zv}(h:zAu w S v n f)(b:Nat)(u0 u1 u2 u3 u4 u5:Value)(hb:¬S b):zAu (put6 w b u0 u1 u2 u3 u4 u5) S v n f:=(((((h.set b 0 u0 hb).set b 1 u1 hb).set b 2 u2 hb).set b 3 u3 hb).set b 4 u4 hb).set b 5 u5 hb
theorem zAK.put6{w:World}{S:Nat->Prop}{v:Value}{n:Nat}{f:Nat->zY}(h:zAK w S v n f)(b:Nat)(u0 u1 u2 u3 u4 u5:Value)(hb:¬S b):zAK (put6 w b u0 u1 u2 u3 u4 u5) S v n f:=(((((h.set b 0 u0 hb).set b 1 u1 hb).set b 2 u2 hb).set b 3 u3 hb).set b 4 u4 hb).set b 5 u5 hb
structure zCX (w:World) (P Q R:Nat->Prop) (v0 v1 v2 v3:Value) (W:zE):Prop where
 zPE:qi w P v0 v1 W.zPE
 zPG:zAu w Q v2 W.sn W.zPG
 zPD:zAK w R v3 W.pn W.zPD
 pq:∀k,P k->¬Q k
 pr:∀k,P k->¬R k
 qr:∀k,Q k->¬R k
def qV(w:World)(lo hi:Nat)(v0 v1 v2 v3:Value)(W:zE):Prop:=∃P Q R,zCX w P Q R v0 v1 v2 v3 W/\∀k,P k\/Q k\/R k->lo<=k/\k<hi
theorem zCX.isIn{w:World}{P Q R:Nat->Prop}{v0 v1 v2 v3:Value}{W:zE}(h:zCX w P Q R v0 v1 v2 v3 W):zAv w P Q R v0 v1 v2 v3 W:=⟨h.zPE,h.zPG.isIn,h.zPD.isIn,h.pq,h.pr,h.qr⟩
theorem qV.own{w:World}{lo hi:Nat}{v0 v1 v2 v3:Value}{W:zE}(h:qV w lo hi v0 v1 v2 v3 W):qP w lo hi v0 v1 v2 v3 W:=by
 obtain⟨P,Q,R,h,hl⟩:=h;exact⟨P,Q,R,h.isIn,hl⟩
theorem zCX.set{w:World}{P Q R:Nat->Prop}{v0 v1 v2 v3:Value}{W:zE}(h:zCX w P Q R v0 v1 v2 v3 W)(b o:Nat)(u:Value)(hb:¬(P b\/Q b\/R b)):zCX (w.setCell ⟨b,o,none⟩ u) P Q R v0 v1 v2 v3 W:=
 ⟨h.zPE.zPF (zF.put w b o u) (fun k hk e=>hb (Or.inl (e▸hk))),h.zPG.set b o u (fun h=>hb (Or.inr (Or.inl h))),h.zPD.set b o u (fun h=>hb (Or.inr (Or.inr h))),h.pq,h.pr,h.qr⟩
theorem qV.set{w:World}{lo hi:Nat}{v0 v1 v2 v3:Value}{W:zE}(h:qV w lo hi v0 v1 v2 v3 W)(b o:Nat)(u:Value)(hb:b<lo\/hi<=b):qV (w.setCell ⟨b,o,none⟩ u) lo hi v0 v1 v2 v3 W:=by
 obtain⟨P,Q,R,h,hl⟩:=h;exact⟨P,Q,R,h.set b o u (fun hk=>by have:=hl b hk;omega),hl⟩
theorem qV.put6{w:World}{lo hi:Nat}{v0 v1 v2 v3:Value}{W:zE}(h:qV w lo hi v0 v1 v2 v3 W)(b:Nat)(u0 u1 u2 u3 u4 u5:Value)(hb:b<lo\/hi<=b):qV (put6 w b u0 u1 u2 u3 u4 u5) lo hi v0 v1 v2 v3 W:=(((((h.set b 0 u0 hb).set b 1 u1 hb).set b 2 u2 hb).set b 3 u3 hb).set b 4 u4 hb).set b 5 u5 hb
theorem qV.zPO{w:World}{lo hi:Nat}{v0 v1 v2 v3:Value}{W:zE}(h:qV w lo hi v0 v1 v2 v3 W):∃a0 c0 a1 c1 a2 c2 a3 c3,v0 = .slice a0 W.zPE.n c0/\v1 = .slice a1 W.zPE.hn c1/\v2 = .slice a2 W.sn c2/\v3 = .slice a3 W.pn c3:=h.own.zPO
theorem qV.wide{w:World}{lo hi bA aA:Nat}{v0 v1 v2 v3:Value}{W:zE}(h:qV w lo hi v0 v1 v2 v3 W)(h1:bA<=lo)(h2:hi<=aA):qV w bA aA v0 v1 v2 v3 W:=by
 obtain⟨P,Q,R,h,hl⟩:=h;exact⟨P,Q,R,h,fun k hk=>by have:=hl k hk;omega⟩
def zHu(W:zE)(w:World)(e:Ending)(w':World):Prop:=∃v0 v1 v2 v3,e = .returned (zt v0 v1 v2 v3 W)/\qV w' w.heap.size w'.heap.size v0 v1 v2 v3 W/\Below w.heap.size w w'
end Go.Proofs.YtmgeglgboadfiaaGreatDoor
