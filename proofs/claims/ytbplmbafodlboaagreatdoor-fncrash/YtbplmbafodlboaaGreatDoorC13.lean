/- A part of the proof. -/
import Derived.Test.YtbplmbafodlboaaGreatDoorC12
import Derived.Deep.RegionLawGrows
import Derived.Scope
import Derived.WalkMore
import Derived.Deep.MidRow
set_option linter.unusedVariables false
set_option maxRecDepth 20000
set_option maxHeartbeats 4000000
namespace Go.Proofs.YtbplmbafodlboaaGreatDoor
open Go.RowKit
theorem zYp{w:World}{b off n:Nat}{f:Nat->zM}{cv:Nat->Value}(h:∀i,i<n->w.cell? ⟨b,off+i*3,none⟩=some (.int .i64 (f i).birth)/\w.cell? ⟨b,off+i*3+1,none⟩=some (cv i)/\w.cell? ⟨b,off+i*3+2,none⟩=some (.string (f i).data)) :
  ∀j u,(sc f cv n)[j]?=some u->w.cell? ⟨b,off+j,none⟩=some u:=by
 intro j u hj;have aA:j<n*3:=by
  have:=(List.getElem?_eq_some_iff.1 hj).1
  rwa [zNA]at this
 obtain⟨c0,c1,c2⟩:=h (j / 3) (by omega);have e:=zU2 f cv n (j / 3) (j % 3) (by omega) (by omega);rw[show j / 3*3+j % 3=j by omega,hj]at e;rcases(by omega:j % 3=0\/j % 3=1\/j % 3=2)with hm | hm | hm
 ·rw[hm]at e;simp at e;subst e;rw[show off+j=off+j / 3*3 by omega];exact c0
 ·rw[hm]at e;simp at e;subst e;rw[show off+j=off+j / 3*3+1 by omega];exact c1
 ·rw[hm]at e;simp at e;subst e;rw[show off+j=off+j / 3*3+2 by omega];exact c2
theorem zAi.values{w:World}{lo hi:Nat}{a:Option Addr}{n c:Nat}{f:Nat->zM}(h:zAi w lo hi (.slice a n c) n f) :
  ∃cv:Nat->Value,(∀i,i<n->zBp w lo hi (.int .i64 (f i).birth) (cv i) (.string (f i).data) (f i))/\
   (0<n->∃b off,a=some ⟨b,off,none⟩/\lo<=b/\b<hi/\∀j u,(sc f cv n)[j]?=some u->w.cell? ⟨b,off+j,none⟩=some u):=by
 obtain⟨_,a0,c0,h0,_,g⟩:=h;simp only[Value.slice.injEq,true_and]at h0;obtain⟨rfl,rfl⟩:=h0;by_cases hn:0<n
 ·obtain⟨b,off,ha,bA,cA,hc⟩:=g hn;have dA:∀i,∃x,i<n->(w.cell? ⟨b,off+i*3,none⟩=some (.int .i64 (f i).birth)/\w.cell? ⟨b,off+i*3+1,none⟩=some x/\w.cell? ⟨b,off+i*3+2,none⟩=some (.string (f i).data))/\zBp w lo hi (.int .i64 (f i).birth) x (.string (f i).data) (f i):=fun i=>by
   by_cases hi:i<n
   ·obtain⟨v0,v1,v2,q0,q1,q2,hs⟩:=hc i hi;have eA:=hs;obtain⟨rfl,_,rfl,_⟩:=eA;exact⟨v1,fun _=>⟨⟨q0,q1,q2⟩,hs⟩⟩
   ·exact⟨.slice none 0 0,fun h=>absurd h hi⟩
  obtain⟨cv,aA⟩:=Classical.axiomOfChoice dA;exact⟨cv,fun i hi=>(aA i hi).2,fun _=>⟨b,off,ha,bA,cA,zYp fun i hi=>(aA i hi).1⟩⟩
 ·exact⟨fun _=>.slice none 0 0,fun i hi=>absurd hi (by omega),fun h=>absurd h hn⟩
theorem zBp.zc4{w:World}{lo hi:Nat}{v0 v1 v2:Value}{s:zM}(h:zBp w lo hi v0 v1 v2 s):∃ka kc,v1 = .slice ka s.kn kc:=by
 obtain⟨_,⟨_,ka,kc,h,_⟩,_⟩:=h;exact⟨ka,kc,h⟩
structure zNY (wr:World) (bs n k:Nat) (f:Nat->zM) (kb:Nat->Nat) (kv cv:Nat->Value):Prop where
 cells:∀j,j<n->zo wr bs (j*3) (.int .i64 (f j).birth)/\zo wr bs (j*3+1) (if j<k then kv j else cv j)/\zo wr bs (j*3+2) (.string (f j).data)
 kids:∀j,j<k->zAc wr (kb j) (kv j) (f j).kn (f j).ks (f j).kb
 zc6:∀j,j<k->0<(f j).kn->bs<kb j/\kb j<wr.heap.size
 zc7:zHe kb k f
theorem zNY.zcw{wr w':World}{bs n k:Nat}{f:Nat->zM}{kb:Nat->Nat}{kv cv:Nat->Value}(h:zNY wr bs n k f kb kv cv)(t:Below wr.heap.size wr w'):zNY w' bs n k f kb kv cv:=
 ⟨fun j hj=>⟨(h.cells j hj).1.zcw t,(h.cells j hj).2.1.zcw t,(h.cells j hj).2.2.zcw t⟩,fun j hj=>(h.kids j hj).zcw t,fun j hj h0=>by have:=h.zc6 j hj h0;have:=t.size;omega,h.zc7⟩
theorem zNY.next{wr w1:World}{bs n k b:Nat}{f:Nat->zM}{kb:Nat->Nat}{kv cv:Nat->Value}{v:Value}(h:zNY wr bs n k f kb kv cv)(hk:k<n)(bA:bs<wr.heap.size)(t:Below wr.heap.size wr w1)
  (hp:zAc w1 b v (f k).kn (f k).ks (f k).kb) (hb:0<(f k).kn->wr.heap.size<=b/\b<w1.heap.size) :
  zNY (((w1.setCell ⟨bs,k*3,none⟩ (.int .i64 (f k).birth)).setCell ⟨bs,k*3+1,none⟩ v).setCell ⟨bs,k*3+2,none⟩ (.string (f k).data)) bs n (k+1) f (fun j=>if j=k then b else kb j) (fun j=>if j=k then v else kv j) cv:=by
 have h':=h.zcw t;refine⟨fun j hj=>?_,fun j hj=>?_,fun j hj h0=>?_,fun i j hi hj aA h1 h2=>?_⟩
 ·obtain⟨c0,c1,c2⟩:=h'.cells j hj;by_cases e:j=k
  ·subst e;rw[if_pos (by omega),if_pos rfl];exact⟨((c0.set _).other _ (Or.inr (by omega))).other _ (Or.inr (by omega)),((c1.other _ (Or.inr (by omega))).set _).other _ (Or.inr (by omega)),((c2.other _ (Or.inr (by omega))).other _ (Or.inr (by omega))).set _⟩
  ·rw[if_neg e];have es:(if j<k+1 then kv j else cv j)=if j<k then kv j else cv j:=by
    by_cases e2:j<k
    ·rw[if_pos e2,if_pos (by omega)]
    ·rw[if_neg e2,if_neg (by omega)]
   rw[es];exact⟨((c0.other _ (Or.inr (by omega))).other _ (Or.inr (by omega))).other _ (Or.inr (by omega)),((c1.other _ (Or.inr (by omega))).other _ (Or.inr (by omega))).other _ (Or.inr (by omega)),((c2.other _ (Or.inr (by omega))).other _ (Or.inr (by omega))).other _ (Or.inr (by omega))⟩
 ·by_cases e:j=k
  ·subst e;simp only[if_true];refine((hp.zcx (zJ.put _ _ _ _) ?_).zcx (zJ.put _ _ _ _) ?_).zcx (zJ.put _ _ _ _) ?_
   all_goals exact fun h0 hx=>by have:=hb h0;omega
  ·simp only[if_neg e];refine(((h'.kids j (by omega)).zcx (zJ.put _ _ _ _) ?_).zcx (zJ.put _ _ _ _) ?_).zcx (zJ.put _ _ _ _) ?_
   all_goals exact fun h0 hx=>by have:=h'.zc6 j (by omega) h0;omega
 ·simp only[World.size_setCell];by_cases e:j=k
  ·subst e;rw[if_pos rfl];have:=hb h0;omega
  ·rw[if_neg e];have:=h'.zc6 j (by omega) h0;omega
 ·show(if i=k then b else kb i)≠(if j=k then b else kb j);by_cases e1:i=k
  ·by_cases e2:j=k
   ·omega
   ·rw[if_pos e1,if_neg e2];subst e1;have:=hb h1;have:=h.zc6 j (by omega) h2;omega
  ·by_cases e2:j=k
   ·rw[if_neg e1,if_pos e2];subst e2;have:=hb h2;have:=h.zc6 i (by omega) h1;omega
   ·rw[if_neg e1,if_neg e2];exact h.zc7 i j (by omega) (by omega) aA h1 h2
theorem zNY.own{wr:World}{bs n:Nat}{f:Nat->zM}{kb:Nat->Nat}{kv cv:Nat->Value}{a:Option Addr}{c:Nat}(h:zNY wr bs n n f kb kv cv)(hm:n<=maxLen)(ha:0<n->a=some ⟨bs,0,none⟩)(hc:n<=c)(hs:∀j,j<n->(f j).data.size<=maxLen):zCd wr bs kb kv (.slice a n c) n f:=
 ⟨hm,a,c,rfl,hc,fun h0=>⟨0,ha h0,fun i hi=>by
  obtain⟨c0,c1,c2⟩:=h.cells i hi;rw[if_pos hi]at c1;rw[Nat.zero_add];exact⟨c0,c1,c2,h.kids i hi,hs i hi,fun hk e=>by have:=h.zc6 i hi hk;omega⟩⟩⟩
theorem zLo(v:Value)(n lo hi:Nat)(f:Nat->zM)(w:World)(h1:zAi w lo hi v n f)(hn:n<=1048576)(hk:∀j,j<n->(f j).kn<=1048576) :
  Calls Tryz.prog 152 #[v] w fun e w'=>∃v' bs kb kv,e = .returned v'/\zCd w' bs kb kv v' n f/\zHe kb n f/\(∀k,zGT bs kb n f k->w.heap.size<=k/\k<w'.heap.size)/\Below w.heap.size w w':=by
 have Hm:=yH h1.1;have q1:=h1;obtain⟨_,a,c,rfl,_,_⟩:=h1;obtain⟨cv,bA,mA⟩:=q1.values;have pA:=yH bA;have Hk:=yH hk;have dA:0<n->∃b off,a=some ⟨b,off,none⟩/\∀j u,(sc f cv n)[j]?=some u->w.cell? ⟨b,off+j,none⟩=some u:=fun h0=>by
  obtain⟨b,off,h2,_,_,h3⟩:=mA h0;exact⟨b,off,h2,h3⟩
 have kA:=zbu f cv n (fun i hi=>by obtain⟨ka,kc,e⟩:=(bA i hi).zc4;rw[e];rfl);clear bA hk q1 mA;go_enter Tryz.func152,Tryz.ntmps152;go_wp2_with fail;refine(zLp a n c (sc f cv n) w (zNA _ _ _) kA hn dA).mono ?_;rintro e w1 ⟨v',rfl,eA,bB,_⟩;obtain⟨a1,c1,rfl,fB⟩:=qj eA;clear kA dA;have oA:∃bs,(0<n->a1=some ⟨bs,0,none⟩/\w.heap.size<=bs/\bs<w1.heap.size)/\zNY w1 bs n 0 f (fun _=>0) cv cv:=by
  by_cases h0:0<n
  ·obtain⟨g,cap,hv,_,jA,tA,aA⟩:=zDE eA h0;simp only[Value.slice.injEq,true_and]at hv;obtain⟨rfl,rfl⟩:=hv;refine⟨g,fun _=>⟨rfl,jA,tA⟩,fun j hj=>⟨?_,?_,?_⟩,fun j hj=>absurd hj (Nat.not_lt_zero _),fun j hj=>absurd hj (Nat.not_lt_zero _),fun i j hi=>absurd hi (Nat.not_lt_zero _)⟩
   ·have:=aA (j*3+0) _ (zU2 f cv n j 0 hj (by omega));simpa using this
   ·have:=aA (j*3+1) _ (zU2 f cv n j 1 hj (by omega));simpa using this
   ·have:=aA (j*3+2) _ (zU2 f cv n j 2 hj (by omega));simpa using this
  ·exact⟨0,fun h=>absurd h h0,fun j hj=>absurd hj (by omega),fun j hj=>absurd hj (Nat.not_lt_zero _),fun j hj=>absurd hj (Nat.not_lt_zero _),fun i j hi=>absurd hi (Nat.not_lt_zero _)⟩
 obtain⟨bs,oA,cA⟩:=oA;have nA:=yH oA;have gA:=yH cA;clear eA oA cA;go_wp2
 go_loopw [4,5,10] (fun _ _ i wr=>∃(k:Nat) (kb:Nat->Nat) (kv:Nat->Value),k<=n/\i = .int .i64 k/\zNY wr bs n k f kb kv cv/\Below w.heap.size w wr/\w1.heap.size<=wr.heap.size) (fun _ _ i _=>n - (intOf i).toNat)
 case atStart=>exact⟨0,_,_,Nat.zero_le _,rfl,gA.out,bB,Nat.le_refl _⟩
 case round=>
  obtain⟨k,kb,kv,hk,rfl,hh,hb,hz⟩:=hrel;have Hh:=yH hh;clear hh;by_cases fA:k<n
  ·have eB:(k:Int)<(n:Int):=(by omega);obtain⟨rfl,jA,tA⟩:=nA.out (by omega);obtain⟨ka,kc,bA⟩:=(pA.out k fA).zc4;have aB:Hid (zBp wr lo hi (.int .i64 (f k).birth) (.slice ka (f k).kn kc) (.string (f k).data) (f k)):=by
    have:=(pA.out k fA).zcw hb;rw[bA]at this;exact this
   obtain⟨⟨q0,r0⟩,q1,⟨q2,r2⟩⟩:=Hh.out.cells k fA;rw[if_neg (by omega),bA]at q1;obtain⟨q1,r1⟩:=q1;go_wp2_with fail;have ha:=zD wr (.cells #[.int .i64 (f k).birth,.slice ka (f k).kn kc,.string (f k).data] 58);refine(zH7 _ _ _ lo hi (f k) _ (aB.out.zcw ha) (Hk.out k fA)).mono ?_;rintro e w2 ⟨nv,nb,rfl,rA,lA,sA⟩;obtain⟨_,na,nc,rfl,_⟩:=id rA;have iA:=zA ha sA;have vA:=yH (Hh.out.next fA (by omega) iA rA (fun h0=>by have:=lA h0;rw[World.size_alloc]at this;omega));have cB:=zA hb iA;have gB:=iA.size;clear q0 q1 q2 r0 r1 r2;obtain⟨⟨q0,r0⟩,q1,⟨q2,r2⟩⟩:=(Hh.out.zcw iA).cells k fA;rw[if_neg (by omega),bA]at q1;obtain⟨q1,r1⟩:=q1;clear rA lA sA ha iA bA;go_wp2;go_roundw
   case rel=>exact⟨k+1,_,_,by omega,by go_num,vA.out,((cB.setCell jA _).setCell jA _).setCell jA _,by simp only[World.size_setCell];omega⟩
   case measure=>simp[intOf];omega
  ·obtain rfl:k=n:=(by omega);go_wp2;go_ret;refine⟨_,bs,kb,kv,rfl,Hh.out.own Hm.out (fun h0=>(nA.out h0).1) fB (fun j hj=>(pA.out j hj).2.2.2),Hh.out.zc7,fun j hj=>?_,hb⟩;rcases hj with⟨h0,rfl⟩ | ⟨i,hi,h0,rfl⟩
   ·have:=nA.out h0;omega
   ·have:=nA.out (by omega);have:=Hh.out.zc6 i hi h0;omega
theorem zFp(v0 v1:Value)(lo hi:Nat)(p:zE)(w:World)(h1:zCV w lo hi v0 v1 p)(hn:yD p<=1048576):Calls Tryz.prog 133 #[.agg #[v0,v1]] w (zTf p w):=by
 have Hp:=yH h1;obtain⟨⟨m1,a,c,rfl,mc,g1⟩,⟨m2,a',c',rfl,gB,g2⟩⟩:=h1;have Hm:=yH (And.intro m1 m2);clear g1 g2 m1 m2;unfold yD at hn;have Hn:Hid (∀j,j<p.n->(p.s j).kn<=1048576):=fun j hj=>by have h2:=zNG p.s hj;unfold zCg at h2;omega
 have aB:p.n<=1048576:=by omega
 have bB:p.hn<=1048576:=by omega
 clear hn;have nA:=zD w (.cells #[.slice a p.n c,.slice a' p.hn c'] 26);have iA:=zA nA (zD _ (.cells #[.slice none 0 0,.slice none 0 0] 26));have HB:=yH ((zAZ.new w (.slice a p.n c) (.slice a' p.hn c') 26).zcw (zD _ (.cells #[.slice none 0 0,.slice none 0 0] 26)));have lA:=zAZ.new (w.alloc (.cells #[.slice a p.n c,.slice a' p.hn c'] 26)) (.slice none 0 0) (.slice none 0 0) 26;rw[World.size_alloc]at lA;have HR:=yH lA;clear nA lA;go_enter Tryz.func133,Tryz.ntmps133;go_wp2_with fail;generalize hW:(w.alloc (.cells #[.slice a p.n c,.slice a' p.hn c'] 26)).alloc (.cells #[.slice none 0 0,.slice none 0 0] 26)=W at HB HR iA ⊢;have hz:W.heap.size=w.heap.size+2:=by rw[<-hW,World.size_alloc,World.size_alloc]
 clear hW;obtain⟨⟨x0,x1⟩,⟨x2,x3⟩⟩:=HB.out;obtain⟨⟨y0,y1⟩,⟨y2,y3⟩⟩:=HR.out;go_region_held3 (fun w'=>w'.cell? ⟨w.heap.size,0,none⟩=some (.slice a p.n c)/\w'.cell? ⟨w.heap.size,1,none⟩=some (.slice a' p.hn c')) (go_keep)
  (first
   | (go_at_call 152;refine(zLo _ p.n lo hi p.s _ ?_ aB Hn.out).mono ?_;(exact Hp.out.1.zcw iA.drew);rintro e w1 ⟨v',bs,kb,kv,rfl,ho,oA,rA,pA⟩;obtain⟨_,sa,kA,rfl,_⟩:=id ho;have aA:=qU pA;obtain⟨⟨z0,z1⟩,⟨z2,z3⟩⟩:=HB.out.zcw aA)
   | (go_at_call 153;refine(zNd _ _ _ (ic p.h p.hn) _ (zMK _ _) (zbb _ _) bB ?_).mono ?_;(exact zZ8 Hp.out.2 rfl (zA iA aA));rintro e w2 ⟨v',rfl,dA,gA,cB⟩;obtain⟨ia,jA,rfl,_⟩:=qj dA;have bA:=zA aA gA;obtain⟨⟨z4,z5⟩,⟨z6,z7⟩⟩:=HB.out.zcw bA;have sA:=yH (HR.out.zcw bA);obtain⟨⟨z8,z9⟩,⟨iB,jB⟩⟩:=HR.out.zcw bA))
 obtain⟨hb,fA,cA⟩:=zPW Hm.out.2 dA cB;have eB:W.heap.size<=w1.heap.size:=aA.size;have fB:w1.heap.size<=w2.heap.size:=gA.size;have eA:∀k,zGT bs kb p.n p.s k->W.heap.size<=k/\k<w1.heap.size:=rA;have tA:Hid (zAE w2 (w.heap.size+2) w2.heap.size (.slice sa p.n kA) (.slice ia p.hn jA) p):=by
  refine⟨bs,hb,kb,kv,ho.zcw gA,oA,fA,fun h0 hx=>?_,fun k hk=>?_⟩
  ·have:=eA _ hx;have:=cA h0;omega
  ·rcases hk with hk | ⟨h0,rfl⟩
   ·have:=eA _ hk;omega
   ·have:=cA h0;omega
 have vA:=zA iA bA;clear fA cA rA eA ho oA dA pA aA gA bA;go_wp2;have mA:=sA.out.put (.slice sa p.n kA) (.slice ia p.hn jA);refine bodyPost_ret (v:=.agg #[.slice sa p.n kA,.slice ia p.hn jA]) (by simp[results,Tryz.results133,go_sem,mA.1.1,mA.2.1]) rfl ⟨_,_,rfl,?_,?_⟩
 ·have t:=(zJ.put w2 (w.heap.size+1) 0 (.slice sa p.n kA)).trans (zJ.put _ (w.heap.size+1) 1 (.slice ia p.hn jA));have hz:=t.size;exact(tA.out.zcx t (fun k hk=>by omega)).wide (by omega) hz
 ·exact(vA.setCell (by show _<=w.heap.size+1;omega) _).setCell (by show _<=w.heap.size+1;omega) _
def zHH(p:zE)(xs:Int):zE:={n:=p.n,s:=p.s,hn:=p.hn+1,h:=fun i=>if i=p.hn then xs else p.h i}
def zBJ(p:zE)(i:Nat)(s:zM):zE:={n:=p.n,s:=fun j=>if j=i then s else p.s j,hn:=p.hn,h:=p.h}
theorem zAE.set{w:World}{lo hi:Nat}{a:Option Addr}{c:Nat}{v1:Value}{p:zE}(h:zAE w lo hi (.slice a p.n c) v1 p){i:Nat}(bA:i<p.n) :
  ∃bs off,a=some ⟨bs,off,none⟩/\(lo<=bs/\bs<hi)/\(∃x0 x1 x2,zo w bs (off+i*3) x0/\zo w bs (off+i*3+1) x1/\zo w bs (off+i*3+2) x2)/\
   ∀(s:zM) (nb:Nat) (nv:Value) (eA bA:Nat),zAc w nb nv s.kn s.ks s.kb->s.data.size<=maxLen->(0<s.kn->(nb<lo\/hi<=nb)/\eA<=nb/\nb<bA)->eA<=lo->hi<=bA->
    zAE (((w.setCell ⟨bs,off+i*3,none⟩ (.int .i64 s.birth)).setCell ⟨bs,off+i*3+1,none⟩ nv).setCell ⟨bs,off+i*3+2,none⟩ (.string s.data)) eA bA (.slice a p.n c) v1 (zBJ p i s):=by
 obtain⟨bs,hb,kb,kv,⟨hm,a0,c0,hv,nA,hx⟩,lA,fA,iA,jA⟩:=h;simp only[Value.slice.injEq,true_and]at hv;obtain⟨rfl,rfl⟩:=hv;have h0:0<p.n:=by omega
 obtain⟨off,ha,dA⟩:=hx h0;have mA:=jA bs (Or.inl (Or.inl ⟨h0,rfl⟩));have gA:∀j,j<p.n->0<(p.s j).kn->lo<=kb j/\kb j<hi:=fun j hj hk=>jA _ (Or.inl (Or.inr ⟨j,hj,hk,rfl⟩))
 have kA:0<p.hn->lo<=hb/\hb<hi:=fun h=>jA _ (Or.inr ⟨h,rfl⟩)
 refine⟨bs,off,ha,mA,⟨_,_,_,(dA i bA).birth,(dA i bA).kidsv,(dA i bA).data⟩,fun s nb nv eA oA hp hs cA h1 h2=>?_⟩;refine⟨bs,hb,(fun j=>if j=i then nb else kb j),(fun j=>if j=i then nv else kv j),⟨hm,a,c,rfl,nA,fun _=>⟨off,ha,fun j hj=>?_⟩⟩,fun j k hj hk pA g1 g2=>?_,?_,fun g0 hx=>?_,fun k hk=>?_⟩
 ·have aA:=dA j hj;by_cases e:j=i
  ·subst e;simp only[zBJ,if_true];refine⟨?_,?_,?_,?_,hs,fun hk e=>by have:=cA hk;omega⟩
   ·exact((aA.birth.set _).other _ (Or.inr (by omega))).other _ (Or.inr (by omega))
   ·exact((aA.kidsv.other _ (Or.inr (by omega))).set _).other _ (Or.inr (by omega))
   ·exact((aA.data.other _ (Or.inr (by omega))).other _ (Or.inr (by omega))).set _
   ·refine((hp.zcx (zJ.put _ _ _ _) ?_).zcx (zJ.put _ _ _ _) ?_).zcx (zJ.put _ _ _ _) ?_
    all_goals exact fun hk e=>by have:=cA hk;omega
  ·simp only[zBJ,if_neg e];refine⟨?_,?_,?_,?_,aA.zc5,aA.zc7⟩
   ·exact((aA.birth.other _ (Or.inr (by omega))).other _ (Or.inr (by omega))).other _ (Or.inr (by omega))
   ·exact((aA.kidsv.other _ (Or.inr (by omega))).other _ (Or.inr (by omega))).other _ (Or.inr (by omega))
   ·exact((aA.data.other _ (Or.inr (by omega))).other _ (Or.inr (by omega))).other _ (Or.inr (by omega))
   ·refine((aA.kids.zcx (zJ.put _ _ _ _) ?_).zcx (zJ.put _ _ _ _) ?_).zcx (zJ.put _ _ _ _) ?_
    all_goals exact fun hk e=>aA.zc7 hk e
 ·show(if j=i then nb else kb j)≠(if k=i then nb else kb k);by_cases e1:j=i
  ·by_cases e2:k=i
   ·omega
   ·rw[if_pos e1,if_neg e2];simp only[zBJ,if_pos e1]at g1;simp only[zBJ,if_neg e2]at g2;have:=cA g1;have:=gA k hk g2;omega
  ·by_cases e2:k=i
   ·rw[if_neg e1,if_pos e2];simp only[zBJ,if_neg e1]at g1;simp only[zBJ,if_pos e2]at g2;have:=cA g2;have:=gA j hj g1;omega
   ·rw[if_neg e1,if_neg e2];simp only[zBJ,if_neg e1]at g1;simp only[zBJ,if_neg e2]at g2;exact lA j k hj hk pA g1 g2
 ·have rA:0<p.hn->hb≠bs:=fun h e=>iA h (Or.inl ⟨h0,e⟩)
  refine((fA.zcx (zJ.put _ _ _ _) ?_).zcx (zJ.put _ _ _ _) ?_).zcx (zJ.put _ _ _ _) ?_
  all_goals exact fun hk e=>rA hk e
 ·rcases hx with⟨_,e⟩ | ⟨j,hj,g1,e⟩
  ·exact iA g0 (Or.inl ⟨h0,e⟩)
  ·by_cases e1:j=i
   ·simp only[zBJ,if_pos e1]at g1 e;have:=cA g1;have:=kA g0;omega
   ·simp only[zBJ,if_neg e1]at g1 e;exact iA g0 (Or.inr ⟨j,hj,g1,e⟩)
 ·rcases hk with(⟨_,e⟩ | ⟨j,hj,g1,e⟩) | ⟨g0,e⟩
  ·omega
  ·by_cases e1:j=i
   ·simp only[zBJ,if_pos e1]at g1 e;have:=cA g1;omega
   ·simp only[zBJ,if_neg e1]at g1 e;have:=gA j hj g1;omega
  ·have:=kA g0;omega
theorem zM4{w wr:World}{lo hi R:Nat}{s0 s1:Value}{p:zE}(ho:zAE wr lo hi s0 s1 p)(bA:R<lo)(aA:w.heap.size<=R)(cA:hi<=wr.heap.size)(hb:Below w.heap.size w wr) :
  zAE ((wr.setCell ⟨R,0,none⟩ s0).setCell ⟨R,1,none⟩ s1) w.heap.size ((wr.setCell ⟨R,0,none⟩ s0).setCell ⟨R,1,none⟩ s1).heap.size s0 s1 p/\Below w.heap.size w ((wr.setCell ⟨R,0,none⟩ s0).setCell ⟨R,1,none⟩ s1):=by
 have t:=(zJ.put wr R 0 s0).trans (zJ.put _ R 1 s1);have hz:=t.size;exact⟨(ho.zcx t (fun k hk=>by omega)).wide (by omega) (by omega),(hb.setCell aA _).setCell aA _⟩
def zBi(n:Nat)(f:Nat->zM)(i:Nat):Prop:=i<n/\zAA (f i)/\∀j,j<i->¬zAA (f j)
theorem zBi.uniq{n:Nat}{f:Nat->zM}{i j:Nat}(h:zBi n f i)(h':zBi n f j):i=j:=by
 rcases Nat.lt_trichotomy i j with e | e | e
 ·exact absurd h.2.1 (h'.2.2 i e)
 ·exact e
 ·exact absurd h'.2.1 (h.2.2 j e)
open Classical in
noncomputable def zCr(p:zE)(s:zM):zLX:=
 if zq p/\¬zAA s/\zDZ p s then(if h:∃i,zBi p.n p.s i then⟨zBJ p (Classical.choose h) s,((Classical.choose h:Nat):Int),s.birth,0⟩else⟨zEi 0,0,0,6⟩)else⟨zEi 0,0,0,1⟩
theorem zGL{p:zE}{s:zM}(h:zq p/\¬zAA s/\zDZ p s)(h':∀j,j<p.n->¬zAA (p.s j)):zCr p s=⟨zEi 0,0,0,6⟩:=by
 unfold zCr;rw[if_pos h,dif_neg (fun ⟨i,hi⟩=>h' i hi.1 hi.2.1)]
theorem zJj{p:zE}{s:zM}{i:Nat}(h:zq p/\¬zAA s/\zDZ p s)(h':zBi p.n p.s i):zCr p s=⟨zBJ p i s,(i:Int),s.birth,0⟩:=by
 unfold zCr;have hx:∃i,zBi p.n p.s i:=⟨i,h'⟩;rw[if_pos h,dif_pos hx];have e:Classical.choose hx=i:=(Classical.choose_spec hx).uniq h';rw[e]
theorem zNH(f:Nat->zM)(i:Nat)(s:zM):∀n,zBK (fun j=>if j=i then s else f j) n<=zBK f n+(if i<n then zCg s else 0)
 | 0=>Nat.zero_le _
 | n+1=>by
  have ih:=zNH f i s n;show zBK (fun j=>if j=i then s else f j) n+zCg (if n=i then s else f n)<=zBK f n+zCg (f n)+_;by_cases e:n=i
  ·rw[if_pos e,if_pos (by omega)];rw[if_neg (by omega)]at ih;omega
  ·rw[if_neg e];by_cases e2:i<n
   ·rw[if_pos e2]at ih;rw[if_pos (by omega)];omega
   ·rw[if_neg e2]at ih;rw[if_neg (by omega)];omega
theorem zWN(p:zE)(i:Nat)(s:zM):yD (zBJ p i s)<=yD p+zCg s:=by
 have h:=zNH p.s i s p.n;have h2:(if i<p.n then zCg s else 0)<=zCg s:=by split<;>omega
 show p.n+zBK (fun j=>if j=i then s else p.s j) p.n+p.hn<=p.n+zBK p.s p.n+p.hn+zCg s;omega
def zEZ(f g:Nat->Int):Prop:=∀i,i<8->Nil (f i) (g i)
def zBx(f g:Nat->Int)(b:Int):zM:={birth:=b,kn:=8,ks:=f,kb:=g,data:=⟨#[]⟩}
open Classical in
noncomputable def zUd(p:zE)(f g:Nat->Int)(b:Int):zLX:=if zEZ f g then⟨p,0,0,0⟩else zCr p (zBx f g b)
def hop(J:Nat->Act->World->Prop)(Q:Exit->Act->World->Prop):Exit->Act->World->Prop
 | .goto l,a,w=>J l a w
 | e,a,w=>Q e a w
def zH5(p:zE)(xs xb:Int)(n L:Nat):Int:=if L=0 then xs else if L=1 then zDW p xs xb n else zFO p xs xb n
def zLD(p:zE)(xs xb:Int)(n L:Nat):Int:=if L=0 then xb else if L=1 then zDp p xs xb n else zFf p xs xb n
def plc(n L:Nat):Nat:=if L=0 then n / 8 else n % 8
def zZq(p:zE)(xs xb:Int)(n L j:Nat):Int:=if Nil (zH5 p xs xb n L) (zLD p xs xb n L)then 0 else zQ (p.s (zH5 p xs xb n L).toNat) j
theorem zJa(p:zE)(xs xb:Int)(n:Nat){L:Nat}(h:L<2):zH5 p xs xb n (L+1)=zZq p xs xb n L (plc n L*2)/\zLD p xs xb n (L+1)=zZq p xs xb n L (plc n L*2+1):=by
 rcases L with _ | _ | L
 ·exact⟨rfl,rfl⟩
 ·exact⟨rfl,rfl⟩
 ·omega
theorem zYX{n L:Nat}(h:n<64):plc n L<8:=by unfold plc;split<;>omega
theorem zZ1{p:zE}{xs xb:Int}{n L:Nat}(h:Nil (zH5 p xs xb n L) (zLD p xs xb n L))(hL:L<2):Nil (zH5 p xs xb n (L+1)) (zLD p xs xb n (L+1)):=by
 rw[(zJa p xs xb n hL).1,(zJa p xs xb n hL).2];unfold zZq;rw[if_pos h,if_pos h];exact⟨rfl,rfl⟩
def zTJ(p:zE)(xs xb:Int)(n k:Nat):List (Int×Int):=kidsUp (fun i=>zH5 p xs xb n (2 - i)) (fun i=>zLD p xs xb n (2 - i)) k
open Classical in
noncomputable def roomN(f:Nat->zM):Nat->Nat
 | 0=>0
 | k+1=>roomN f k+(if zAA (f k)then 1 else 0)
theorem zEC{f:Nat->zM}{k:Nat}(h:zAA (f k)):roomN f (k+1)=roomN f k+1:=by simp[roomN,h]
theorem zEW{f:Nat->zM}{k:Nat}(h:¬zAA (f k)):roomN f (k+1)=roomN f k:=by simp[roomN,h]
theorem zJf(f:Nat->zM):∀k,roomN f k<=k
 | 0=>Nat.le_refl _
 | k+1=>by
  have:=zJf f k;by_cases h:zAA (f k)
  ·rw[zEC h];omega
  ·rw[zEW h];omega
open Classical in
noncomputable def zUy(p:zE):Int:=if zq p then(roomN p.s p.n:Int)else 0
theorem zNC(p:zE)(i:Nat)(s:zM):(zBJ p i s).s i=s:=if_pos rfl
theorem zHy(p:zE){i j:Nat}(s:zM)(h:j≠i):(zBJ p i s).s j=p.s j:=if_neg h
theorem zFQ{p:zE}{i:Nat}{s:zM}{xs xb:Int}(hi:zAA (p.s i))(h:yT p xs xb):yT (zBJ p i s) xs xb:=by
 obtain⟨h1,h2,h3,h4⟩:=h;refine⟨h1,h2,h3,?_⟩;have aA:xs.toNat≠i:=fun e=>by
  rw[e]at h4;have:=hi.1;omega
 rw[zHy p s aA];exact h4
theorem zQl{p:zE}{i:Nat}{s t:zM}(hi:zAA (p.s i))(h:zDZ p t):zDZ (zBJ p i s) t:=by
 refine⟨h.1,?_⟩;rcases h.2 with h2 | h2
 ·exact Or.inl h2
 ·refine Or.inr ⟨h2.1,h2.2.1,fun m hm=>?_⟩;rcases h2.2.2 m hm with h3 | h3
  ·exact Or.inl h3
  ·exact Or.inr ⟨zFQ hi h3.1,h3.2⟩
theorem zKD{p:zE}{i:Nat}{s:zM}(hR:zq p)(hi:zBi p.n p.s i)(hs:zDZ p s):zq (zBJ p i s):=by
 refine⟨hR.1,fun j hj=>?_,fun j hj=>?_⟩
 ·by_cases e:j=i
  ·rw[e,zNC];exact Or.inr (zQl hi.2.1 hs)
  ·rw[zHy p s e];rcases hR.2.1 j hj with h | h
   ·exact Or.inl h
   ·exact Or.inr (zQl hi.2.1 h)
 ·obtain⟨h1,h2,h3,h4⟩:=hR.2.2 j hj;refine⟨h1,h2,?_,h4⟩;have aA:(p.h j).toNat≠i:=fun e=>h3 (by rw[e];exact hi.2.1)
  show ¬zAA ((zBJ p i s).s (p.h j).toNat);rw[zHy p s aA];exact h3
theorem zAz{p:zE}{s:zM}(h:zDZ p s):¬zAA s:=fun hf=>by
 have:=hf.1;have:=h.1.1;omega
theorem zRk{p:zE}{i:Nat}{s:zM}(hi:zAA (p.s i))(hs:¬zAA s):∀n,roomN (zBJ p i s).s n+(if i<n then 1 else 0)=roomN p.s n
 | 0=>rfl
 | n+1=>by
  have ih:=zRk hi hs n;by_cases e:n=i
  ·subst e;rw[if_pos (by omega)];rw[if_neg (by omega)]at ih;rw[zEW (by rw[zNC];exact hs),zEC hi];omega
  ·have aA:(zBJ p i s).s n=p.s n:=zHy p s e;have bA:(if i<n+1 then 1 else 0)=(if i<n then 1 else 0):=by
    by_cases e2:i<n
    ·rw[if_pos e2,if_pos (by omega)]
    ·rw[if_neg e2,if_neg (by omega)]
   rw[bA];by_cases hf:zAA (p.s n)
   ·rw[zEC (by rw[aA];exact hf),zEC hf];omega
   ·rw[zEW (by rw[aA];exact hf),zEW hf];exact ih
def zAM(w:World)(b:Nat)(v0 v1 v2 v3 v4 v5:Value):Prop:=zo w b 0 v0/\zo w b 1 v1/\zo w b 2 v2/\zo w b 3 v3/\zo w b 4 v4/\zo w b 5 v5
theorem zAM.c{w:World}{b:Nat}{v0 v1 v2 v3 v4 v5:Value}(h:zAM w b v0 v1 v2 v3 v4 v5):w.cell? ⟨b,0,none⟩=some v0/\w.cell? ⟨b,1,none⟩=some v1/\w.cell? ⟨b,2,none⟩=some v2/\w.cell? ⟨b,3,none⟩=some v3/\w.cell? ⟨b,4,none⟩=some v4/\w.cell? ⟨b,5,none⟩=some v5:=
 ⟨h.1.1,h.2.1.1,h.2.2.1.1,h.2.2.2.1.1,h.2.2.2.2.1.1,h.2.2.2.2.2.1⟩
theorem zAM.zcw{w w':World}{b:Nat}{v0 v1 v2 v3 v4 v5:Value}(h:zAM w b v0 v1 v2 v3 v4 v5)(t:Below w.heap.size w w'):zAM w' b v0 v1 v2 v3 v4 v5:=⟨h.1.zcw t,h.2.1.zcw t,h.2.2.1.zcw t,h.2.2.2.1.zcw t,h.2.2.2.2.1.zcw t,h.2.2.2.2.2.zcw t⟩
theorem zAM.zcx{S:Nat->Prop}{w w':World}{b:Nat}{v0 v1 v2 v3 v4 v5:Value}(h:zAM w b v0 v1 v2 v3 v4 v5)(t:zJ S w w')(hs:¬S b):zAM w' b v0 v1 v2 v3 v4 v5:=⟨h.1.zcx t hs,h.2.1.zcx t hs,h.2.2.1.zcx t hs,h.2.2.2.1.zcx t hs,h.2.2.2.2.1.zcx t hs,h.2.2.2.2.2.zcx t hs⟩
theorem zAM.new(w:World)(v0 v1 v2 v3 v4 v5:Value)(t:TypeId):zAM (w.alloc (.cells #[v0,v1,v2,v3,v4,v5] t)) w.heap.size v0 v1 v2 v3 v4 v5:=by
 have hb:(w.alloc (.cells #[v0,v1,v2,v3,v4,v5] t)).heap[w.heap.size]?=some (.cells #[v0,v1,v2,v3,v4,v5] t):=heap_alloc_new _ _;exact⟨zG hb rfl,zG hb rfl,zG hb rfl,zG hb rfl,zG hb rfl,zG hb rfl⟩
abbrev put6(w:World)(b:Nat)(u0 u1 u2 u3 u4 u5:Value):World:=(((((w.setCell ⟨b,0,none⟩ u0).setCell ⟨b,1,none⟩ u1).setCell ⟨b,2,none⟩ u2).setCell ⟨b,3,none⟩ u3).setCell ⟨b,4,none⟩ u4).setCell ⟨b,5,none⟩ u5
theorem zAM.put{w:World}{b:Nat}{v0 v1 v2 v3 v4 v5:Value}(h:zAM w b v0 v1 v2 v3 v4 v5)(u0 u1 u2 u3 u4 u5:Value):zAM (put6 w b u0 u1 u2 u3 u4 u5) b u0 u1 u2 u3 u4 u5:=
 have H (i:Nat) (u v:Value) (e:[u0,u1,u2,u3,u4,u5][i]?=some u) (c:zo w b i v):zo (put6 w b u0 u1 u2 u3 u4 u5) b i u:=zP2 [u0,u1,u2,u3,u4,u5] w 0 i i e (Nat.zero_add i) c
 ⟨H 0 _ _ rfl h.1,H 1 _ _ rfl h.2.1,H 2 _ _ rfl h.2.2.1,H 3 _ _ rfl h.2.2.2.1,H 4 _ _ rfl h.2.2.2.2.1,H 5 _ _ rfl h.2.2.2.2.2⟩
theorem zJ.put6(w:World)(b:Nat)(u0 u1 u2 u3 u4 u5:Value):zJ (fun k=>k=b) w (put6 w b u0 u1 u2 u3 u4 u5):=
 (((((zJ.put w b 0 u0).trans (zJ.put _ b 1 u1)).trans (zJ.put _ b 2 u2)).trans (zJ.put _ b 3 u3)).trans (zJ.put _ b 4 u4)).trans (zJ.put _ b 5 u5)
def zBo(p:zE)(xs xb:Int)(n L:Nat)(x:Int)(i:Nat):Int:=if i=plc n L then x else zFK p (zH5 p xs xb n L) (zLD p xs xb n L) i
def zBl(p:zE)(xs xb:Int)(n L:Nat)(y:Int)(i:Nat):Int:=if i=plc n L then y else zFJ p (zH5 p xs xb n L) (zLD p xs xb n L) i
noncomputable def zRb(p:zE)(xs xb:Int)(n:Nat)(b:Int)(o:zLX)(L:Nat):zLX:=zUd o.pool (zBo p xs xb n L o.ps) (zBl p xs xb n L o.pb) b
noncomputable def zCm(p:zE)(xs xb:Int)(n:Nat)(b:Int)(o:zLX):Nat->zLX
 | 0=>o
 | k+1=>zRb p xs xb n b (zCm p xs xb n b o k) (1 - k)
theorem zMu:yD (zEi 0)=0:=rfl
theorem zNN(p:zE)(s:zM):yD (zCr p s).pool<=yD p+zCg s:=by
 unfold zCr;split
 ·split
  ·exact zWN _ _ _
  ·show yD (zEi 0)<=_;rw[zMu];omega
 ·show yD (zEi 0)<=_;rw[zMu];omega
theorem zTH(p:zE)(f g:Nat->Int)(b:Int):yD (zUd p f g b).pool<=yD p+8:=by
 unfold zUd;split
 ·show yD p<=_;omega
 ·exact zNN p (zBx f g b)
theorem zOX(p:zE)(xs xb:Int)(n:Nat)(b:Int)(o:zLX):∀k,yD (zCm p xs xb n b o k).pool<=yD o.pool+8*k
 | 0=>Nat.le_refl _
 | k+1=>by
  have h1:=zOX p xs xb n b o k;have h2:=zTH (zCm p xs xb n b o k).pool (zBo p xs xb n (1 - k) (zCm p xs xb n b o k).ps) (zBl p xs xb n (1 - k) (zCm p xs xb n b o k).pb) b;show yD (zUd _ _ _ _).pool<=_;omega
structure zEP where
 pool:zE
 rs:Int
 rb:Int
 old:List (Int×Int)
 code:Int
def zBk(c:Int):zEP:=⟨zEi 0,0,0,[],c⟩
open Classical in
noncomputable def zH4(p:zE)(xs xb:Int)(n:Nat)(b:Int)(o:zLX):zEP:=
 if (zCm p xs xb n b o 1).code≠0 then zBk (zCm p xs xb n b o 1).code
 else if (zCm p xs xb n b o 2).code≠0 then zBk (zCm p xs xb n b o 2).code
 else⟨(zCm p xs xb n b o 2).pool,(zCm p xs xb n b o 2).ps,(zCm p xs xb n b o 2).pb,zTJ p xs xb n 3,0⟩
theorem zLM{p:zE}{xs xb:Int}{n:Nat}{b:Int}{o:zLX}{k:Nat}(hk:k<2)(h:∀j,j<=k->(zCm p xs xb n b o j).code=0)(hc:(zCm p xs xb n b o (k+1)).code≠0):zH4 p xs xb n b o=zBk (zCm p xs xb n b o (k+1)).code:=by
 unfold zH4;rcases k with _ | _ | k
 ·rw[if_pos hc]
 ·rw[if_neg (fun hh=>hh (h 1 (by omega))),if_pos hc]
 ·omega
theorem zMc{p:zE}{xs xb:Int}{n:Nat}{b:Int}{o:zLX}(h:∀j,j<=2->(zCm p xs xb n b o j).code=0):zH4 p xs xb n b o=⟨(zCm p xs xb n b o 2).pool,(zCm p xs xb n b o 2).ps,(zCm p xs xb n b o 2).pb,zTJ p xs xb n 3,0⟩:=by
 unfold zH4;rw[if_neg (fun hh=>hh (h 1 (by omega))),if_neg (fun hh=>hh (h 2 (by omega)))]
def zE6(n:Int):Prop:=0<=n/\n<=63
open Classical in
noncomputable def zGx(p:zE)(xs xb page b:Int):zEP:=
 if zAm p xs xb/\zBR xb b then(if zE6 page then(if Nil (zFO p xs xb page.toNat) (zFf p xs xb page.toNat)then zBk 4 else zH4 p xs xb page.toNat b ⟨p,0,0,0⟩)else zBk 8)else zBk 1
theorem zOu{p:zE}{xs xb aA b:Int}(h:¬(zAm p xs xb/\zBR xb b)):zGx p xs xb aA b=zBk 1:=if_neg h
theorem zTW{p:zE}{xs xb aA b:Int}(h:zAm p xs xb/\zBR xb b)(h2:¬zE6 aA):zGx p xs xb aA b=zBk 8:=(if_pos h).trans (if_neg h2)
theorem zWX{p:zE}{xs xb aA b:Int}(h:zAm p xs xb/\zBR xb b)(h2:zE6 aA)(h3:Nil (zFO p xs xb aA.toNat) (zFf p xs xb aA.toNat)):zGx p xs xb aA b=zBk 4:=((if_pos h).trans (if_pos h2)).trans (if_pos h3)
theorem zR7{p:zE}{xs xb aA b:Int}(h:zAm p xs xb/\zBR xb b)(h2:zE6 aA)(h3:¬Nil (zFO p xs xb aA.toNat) (zFf p xs xb aA.toNat)):zGx p xs xb aA b=zH4 p xs xb aA.toNat b ⟨p,0,0,0⟩:=((if_pos h).trans (if_pos h2)).trans (if_neg h3)
def zBQ(b:Int)(d:ByteArray):zM:={birth:=b,kn:=0,ks:=fun _=>0,kb:=fun _=>0,data:=d}
open Classical in
noncomputable def zDH(p:zE)(xs xb page:Int)(d:ByteArray)(b:Int):zEP:=
 if 8000<d.size then zBk 2 else if zAm p xs xb/\zBR xb b then(if zE6 page/\d.size=16 then(if (zCr p (zBQ b d)).code=0 then zH4 p xs xb page.toNat b ⟨(zCr p (zBQ b d)).pool,(zCr p (zBQ b d)).ps,(zCr p (zBQ b d)).pb,0⟩else zBk (zCr p (zBQ b d)).code)else zBk 8)else zBk 1
theorem zNU{p:zE}{xs xb aA b:Int}{d:ByteArray}(h:8000<d.size):zDH p xs xb aA d b=zBk 2:=if_pos h
theorem zNT{p:zE}{xs xb aA b:Int}{d:ByteArray}(h0:¬8000<d.size)(h:¬(zAm p xs xb/\zBR xb b)):zDH p xs xb aA d b=zBk 1:=(if_neg h0).trans (if_neg h)
theorem zK7{p:zE}{xs xb aA b:Int}{d:ByteArray}(h0:¬8000<d.size)(h:zAm p xs xb/\zBR xb b)(h2:¬(zE6 aA/\d.size=16)):zDH p xs xb aA d b=zBk 8:=((if_neg h0).trans (if_pos h)).trans (if_neg h2)
theorem zTb{p:zE}{xs xb aA b:Int}{d:ByteArray}(h0:¬8000<d.size)(h:zAm p xs xb/\zBR xb b)(h2:zE6 aA/\d.size=16)(h3:(zCr p (zBQ b d)).code≠0):zDH p xs xb aA d b=zBk (zCr p (zBQ b d)).code:=(((if_neg h0).trans (if_pos h)).trans (if_pos h2)).trans (if_neg h3)
theorem zWY{p:zE}{xs xb aA b:Int}{d:ByteArray}(h0:¬8000<d.size)(h:zAm p xs xb/\zBR xb b)(h2:zE6 aA/\d.size=16)(h3:(zCr p (zBQ b d)).code=0):zDH p xs xb aA d b=zH4 p xs xb aA.toNat b ⟨(zCr p (zBQ b d)).pool,(zCr p (zBQ b d)).ps,(zCr p (zBQ b d)).pb,0⟩:=(((if_neg h0).trans (if_pos h)).trans (if_pos h2)).trans (if_pos h3)
theorem zMq{p:zE}{xs xb:Int}{n:Nat}(hT:zAm p xs xb)(hn:n<64):∀{L:Nat},L<3->¬Nil (zH5 p xs xb n L) (zLD p xs xb n L)->yT p (zH5 p xs xb n L) (zLD p xs xb n L)/\zLD p xs xb n L<=xb
 | 0,_,hN=>⟨(hT.2.resolve_left hN).1.1,Int.le_refl _⟩
 | L+1,hL,hN=>by
  have aA:¬Nil (zH5 p xs xb n L) (zLD p xs xb n L):=fun h=>hN (zZ1 h (by omega))
  obtain⟨h1,h2⟩:=zMq hT hn (L:=L) (by omega) aA;rw[(zJa p xs xb n (show L<2 by omega)).1,(zJa p xs xb n (show L<2 by omega)).2]at hN ⊢;unfold zZq at hN ⊢;rw[if_neg aA,if_neg aA]at hN ⊢;obtain⟨h3,h4⟩:=zCz (zBG hT.1 h1) (zYX (n:=n) (L:=L) hn) hN;refine⟨h3,?_⟩;have h5:=h1.2.2.2;have bA:zQ (p.s (zH5 p xs xb n L).toNat) (plc n L*2+1)<=(p.s (zH5 p xs xb n L).toNat).birth:=h4;omega
theorem zFH{p q:zE}{xs xb x y b:Int}{n L:Nat}(hT:zAm p xs xb)(hn:n<64)(hL:L<2)(hB:zBR xb b)(bA:∀s t,yT p s t->yT q s t)(hx:Nil x y\/(yT q x y/\y<=b)) :
  zDZ q (zBx (zBo p xs xb n L x) (zBl p xs xb n L y) b):=by
 refine⟨hB.1,Or.inr ⟨rfl,by simp[zBx,Go.ByteArray.toList_eq],fun i hi=>?_⟩⟩;have aA:i<8:=hi;show zTd q b (zBo p xs xb n L x i) (zBl p xs xb n L y i);unfold zBo zBl;by_cases e:i=plc n L
 ·rw[if_pos e,if_pos e];rcases hx with h | h
  ·exact Or.inl h
  ·exact Or.inr h
 ·rw[if_neg e,if_neg e];unfold zFK zFJ;by_cases hN:Nil (zH5 p xs xb n L) (zLD p xs xb n L)
  ·rw[if_pos hN,if_pos hN];exact Or.inl ⟨rfl,rfl⟩
  ·rw[if_neg hN,if_neg hN];obtain⟨h1,h2⟩:=zMq hT hn (L:=L) (by omega) hN;by_cases hk:Nil (qS (p.s (zH5 p xs xb n L).toNat) i) (yh (p.s (zH5 p xs xb n L).toNat) i)
   ·exact Or.inl hk
   ·obtain⟨h3,h4⟩:=zCz (zBG hT.1 h1) aA hk;refine Or.inr ⟨bA _ _ h3,?_⟩;have h5:=h1.2.2.2;have h6:=hB.2;omega
theorem zGF{f:Nat->zM}:∀{n:Nat},roomN f n=0->∀j,j<n->¬zAA (f j)
 | 0,_,j,hj=>absurd hj (Nat.not_lt_zero _)
 | n+1,h,j,hj=>by
  by_cases hf:zAA (f n)
  ·rw[zEC hf]at h;omega
  ·rw[zEW hf]at h;by_cases e:j=n
   ·rw[e];exact hf
   ·exact zGF h j (by omega)
theorem zED{f:Nat->zM}:∀{n:Nat},0<roomN f n->∃i,zBi n f i
 | 0,h=>absurd h (Nat.lt_irrefl _)
 | n+1,h=>by
  by_cases h0:0<roomN f n
  ·obtain⟨i,h1,h2,h3⟩:=zED h0;exact⟨i,by omega,h2,h3⟩
  ·by_cases hf:zAA (f n)
   ·exact⟨n,by omega,hf,zGF (by omega)⟩
   ·rw[zEW hf]at h;exact absurd h h0
theorem zHv{p:zE}{i:Nat}{s:zM}(hi:zBi p.n p.s i)(hs:zDZ p s):roomN (zBJ p i s).s p.n+1=roomN p.s p.n:=by
 have h:=zRk (p:=p) (i:=i) (s:=s) hi.2.1 (zAz hs) p.n;rw[if_pos hi.1]at h;exact h
theorem zDx{p:zE}{b:Int}{d:ByteArray}(hb:zBg b)(hd:d.size=16):zDZ p (zBQ b d):=⟨hb,Or.inl ⟨rfl,hd⟩⟩
theorem zIk{p:zE}{i:Nat}{s:zM}(hi:zBi p.n p.s i)(hs:1<=s.birth):yT (zBJ p i s) (i:Int) s.birth:=
 ⟨hs,by omega,by have:=hi.1;show(i:Int)<(p.n:Int);omega,by rw[Int.toNat_natCast,zNC]⟩
theorem zMw{p:zE}{xs xb x b:Int}{n L:Nat}(hn:n<64)(hb:1<=b):¬zEZ (zBo p xs xb n L x) (zBl p xs xb n L b):=fun h=>by
 have:=(h (plc n L) (zYX hn)).2;unfold zBl at this;rw[if_pos rfl]at this;omega
def zB3(p:zE)(b:Int)(d:ByteArray)(i0:Nat):zE:=zBJ p i0 (zBQ b d)
def zGB(p:zE)(xs xb:Int)(n:Nat)(b:Int)(d:ByteArray)(i0 i1:Nat):zE:=zBJ (zB3 p b d i0) i1 (zBx (zBo p xs xb n 1 (i0:Int)) (zBl p xs xb n 1 b) b)
def zYe(p:zE)(xs xb:Int)(n:Nat)(b:Int)(d:ByteArray)(i0 i1 i2:Nat):zE:=zBJ (zGB p xs xb n b d i0 i1) i2 (zBx (zBo p xs xb n 0 (i1:Int)) (zBl p xs xb n 0 b) b)
theorem zck{p:zE}{xs xb b:Int}{d:ByteArray}{i0:Nat}(hT:zAm p xs xb)(hB:zBR xb b)(hd:d.size=16)(h0:zBi p.n p.s i0):zCr p (zBQ b d)=⟨zB3 p b d i0,(i0:Int),b,0⟩:=
 zJj ⟨hT.1,zAz (zDx (p:=p) hB.1 hd),zDx hB.1 hd⟩ h0
theorem zIl{p:zE}{xs xb b:Int}{d:ByteArray}{i0:Nat}(hT:zAm p xs xb)(hB:zBR xb b)(hd:d.size=16)(h0:zBi p.n p.s i0):zq (zB3 p b d i0):=zKD hT.1 h0 (zDx hB.1 hd)
theorem zFL{p:zE}{xs xb b:Int}{n:Nat}{d:ByteArray}{i0:Nat}(hT:zAm p xs xb)(hn:n<64)(hB:zBR xb b)(h0:zBi p.n p.s i0):zDZ (zB3 p b d i0) (zBx (zBo p xs xb n 1 (i0:Int)) (zBl p xs xb n 1 b) b):=
 zFH hT hn (by omega) hB (fun s t h=>zFQ h0.2.1 h) (Or.inr ⟨zIk (s:=zBQ b d) h0 hB.1.1,Int.le_refl _⟩)
theorem zJk{p:zE}{xs xb b:Int}{n:Nat}{d:ByteArray}{i0 i1:Nat}(hT:zAm p xs xb)(hn:n<64)(hB:zBR xb b)(h0:zBi p.n p.s i0)(h1:zBi p.n (zB3 p b d i0).s i1):zDZ (zGB p xs xb n b d i0 i1) (zBx (zBo p xs xb n 0 (i1:Int)) (zBl p xs xb n 0 b) b):=
 zFH hT hn (by omega) hB (fun s t h=>zFQ (p:=zB3 p b d i0) h1.2.1 (zFQ h0.2.1 h)) (Or.inr ⟨zIk (p:=zB3 p b d i0) (s:=zBx (zBo p xs xb n 1 (i0:Int)) (zBl p xs xb n 1 b) b) h1 hB.1.1,Int.le_refl _⟩)
theorem zcD{p:zE}{xs xb b:Int}{n:Nat}{d:ByteArray}{i0:Nat}(hn:n<64)(hB:zBR xb b):zCm p xs xb n b ⟨zB3 p b d i0,(i0:Int),b,0⟩ 1=zCr (zB3 p b d i0) (zBx (zBo p xs xb n 1 (i0:Int)) (zBl p xs xb n 1 b) b):=
 if_neg (zMw hn hB.1.1)
theorem zPe{p:zE}{xs xb b:Int}{n:Nat}{d:ByteArray}{i0 i1:Nat}(hT:zAm p xs xb)(hn:n<64)(hB:zBR xb b)(hd:d.size=16)(h0:zBi p.n p.s i0)(h1:zBi p.n (zB3 p b d i0).s i1):zCm p xs xb n b ⟨zB3 p b d i0,(i0:Int),b,0⟩ 1=⟨zGB p xs xb n b d i0 i1,(i1:Int),b,0⟩:=by
 rw[zcD hn hB];exact zJj ⟨zIl hT hB hd h0,zAz (zFL (d:=d) hT hn hB h0),zFL hT hn hB h0⟩ h1
theorem zcE{p:zE}{xs xb b:Int}{n:Nat}{d:ByteArray}{i0 i1:Nat}(hT:zAm p xs xb)(hn:n<64)(hB:zBR xb b)(hd:d.size=16)(h0:zBi p.n p.s i0)(h1:zBi p.n (zB3 p b d i0).s i1):zCm p xs xb n b ⟨zB3 p b d i0,(i0:Int),b,0⟩ 2=zCr (zGB p xs xb n b d i0 i1) (zBx (zBo p xs xb n 0 (i1:Int)) (zBl p xs xb n 0 b) b):=by
 show zRb p xs xb n b (zCm p xs xb n b ⟨zB3 p b d i0,(i0:Int),b,0⟩ 1) 0=_;rw[zPe hT hn hB hd h0 h1];exact if_neg (zMw hn hB.1.1)
theorem zUq{n:Nat}(hn:n<64):zE6 (n:Int):=⟨by omega,by omega⟩
theorem zSA{p:zE}{xs xb b:Int}{n:Nat}{d:ByteArray}{i0:Nat}(hT:zAm p xs xb)(hn:n<64)(hB:zBR xb b)(hd:d.size=16)(h0:zBi p.n p.s i0):zDH p xs xb (n:Int) d b=zH4 p xs xb n b ⟨zB3 p b d i0,(i0:Int),b,0⟩:=by
 have t0:=zck hT hB hd h0;rw[zWY (by omega) ⟨hT,hB⟩ ⟨zUq hn,hd⟩ (by rw[t0]),t0];rfl
theorem zMv{p:zE}{xs xb b:Int}{n:Nat}{d:ByteArray}{i0 i1:Nat}(hT:zAm p xs xb)(hn:n<64)(hB:zBR xb b)(hd:d.size=16)(h0:zBi p.n p.s i0)(h1:zBi p.n (zB3 p b d i0).s i1):zq (zGB p xs xb n b d i0 i1):=
 zKD (zIl hT hB hd h0) h1 (zFL hT hn hB h0)
theorem zZE{p:zE}{xs xb b:Int}{n:Nat}{d:ByteArray}{i0 i1 i2:Nat}(hT:zAm p xs xb)(hn:n<64)(hB:zBR xb b)(hd:d.size=16)(h0:zBi p.n p.s i0)(h1:zBi p.n (zB3 p b d i0).s i1)(h2:zBi p.n (zGB p xs xb n b d i0 i1).s i2) :
  zDH p xs xb (n:Int) d b=⟨zYe p xs xb n b d i0 i1 i2,(i2:Int),b,zTJ p xs xb n 3,0⟩:=by
 rw[zSA hT hn hB hd h0];have e1:=zPe hT hn hB hd h0 h1;have e2:zCm p xs xb n b ⟨zB3 p b d i0,(i0:Int),b,0⟩ 2=⟨zYe p xs xb n b d i0 i1 i2,(i2:Int),b,0⟩:=by
  rw[zcE hT hn hB hd h0 h1];exact zJj ⟨zMv hT hn hB hd h0 h1,zAz (zJk (d:=d) hT hn hB h0 h1),zJk hT hn hB h0 h1⟩ h2
 rw[zMc (fun j hj=>by
  rcases j with _ | _ | _ | j
  ·rfl
  ·rw[e1]
  ·rw[e2]
  ·omega),e2]
theorem zTa{p:zE}{xs xb b:Int}{n:Nat}{d:ByteArray}(hT:zAm p xs xb)(hn:n<64)(hB:zBR xb b)(hd:d.size=16)(hr:roomN p.s p.n<3):zDH p xs xb (n:Int) d b=zBk 6:=by
 by_cases r0:roomN p.s p.n=0
 ·have t0:=zGL (p:=p) (s:=zBQ b d) ⟨hT.1,zAz (zDx (p:=p) hB.1 hd),zDx hB.1 hd⟩ (zGF r0);rw[zTb (by omega) ⟨hT,hB⟩ ⟨zUq hn,hd⟩ (by rw[t0];decide),t0]
 ·obtain⟨i0,h0⟩:=zED (f:=p.s) (n:=p.n) (by omega);have q0:=zHv (s:=zBQ b d) h0 (zDx hB.1 hd);rw[zSA hT hn hB hd h0];by_cases r1:roomN (zB3 p b d i0).s p.n=0
  ·have t1:=zGL (p:=zB3 p b d i0) ⟨zIl hT hB hd h0,zAz (zFL (n:=n) (d:=d) hT hn hB h0),zFL hT hn hB h0⟩ (zGF r1);have e1:=zcD (p:=p) (xs:=xs) (d:=d) (i0:=i0) hn hB;rw[t1]at e1;rw[zLM (k:=0) (by omega) (fun j hj=>by cases (show j=0 from by omega);rfl) (by rw[e1];decide),e1]
  ·obtain⟨i1,h1⟩:=zED (f:=(zB3 p b d i0).s) (n:=p.n) (by omega);have q1:roomN (zGB p xs xb n b d i0 i1).s p.n+1=roomN (zB3 p b d i0).s p.n:=zHv (p:=zB3 p b d i0) h1 (zFL hT hn hB h0);have aA:roomN (zB3 p b d i0).s p.n+1=roomN p.s p.n:=q0;have r2:roomN (zGB p xs xb n b d i0 i1).s p.n=0:=(by omega);have t2:=zGL (p:=zGB p xs xb n b d i0 i1) ⟨zMv hT hn hB hd h0 h1,zAz (zJk (d:=d) hT hn hB h0 h1),zJk hT hn hB h0 h1⟩ (zGF r2);have e1:=zPe hT hn hB hd h0 h1;have e2:=zcE hT hn hB hd h0 h1;rw[t2]at e2;rw[zLM (k:=1) (by omega) (fun j hj=>by
    rcases j with _ | _ | j
    ·rfl
    ·rw[e1]
    ·omega) (by rw[e2];decide),e2]
def zCt(w:World)(S:Nat->Prop)(v0 v1:Value)(p:zE):Prop:=
 ∃(bs hb:Nat) (kb:Nat->Nat) (kv:Nat->Value),zCd w bs kb kv v0 p.n p.s/\zHe kb p.n p.s/\zDa w hb v1 p.hn p.h/\(0<p.hn->¬zGT bs kb p.n p.s hb)/\
  ∀k,zGT bs kb p.n p.s k\/(0<p.hn/\k=hb)->S k
theorem zAE.isIn{w:World}{lo hi:Nat}{S:Nat->Prop}{v0 v1:Value}{p:zE}(h:zAE w lo hi v0 v1 p)(hS:∀k,lo<=k->k<hi->S k):zCt w S v0 v1 p:=by
 obtain⟨bs,hb,kb,kv,h1,h2,h3,h4,h5⟩:=h;exact⟨bs,hb,kb,kv,h1,h2,h3,h4,fun k hk=>hS k (h5 k hk).1 (h5 k hk).2⟩
theorem zCt.own{w:World}{lo hi:Nat}{S:Nat->Prop}{v0 v1:Value}{p:zE}(h:zCt w S v0 v1 p)(hS:∀k,S k->lo<=k/\k<hi):zAE w lo hi v0 v1 p:=by
 obtain⟨bs,hb,kb,kv,h1,h2,h3,h4,h5⟩:=h;exact⟨bs,hb,kb,kv,h1,h2,h3,h4,fun k hk=>hS k (h5 k hk)⟩
theorem zCt.zcw{w w':World}{S:Nat->Prop}{v0 v1:Value}{p:zE}(h:zCt w S v0 v1 p)(t:Below w.heap.size w w'):zCt w' S v0 v1 p:=by
 obtain⟨bs,hb,kb,kv,h1,h2,h3,h4,h5⟩:=h;exact⟨bs,hb,kb,kv,h1.zcw t,h2,h3.zcw t,h4,h5⟩
theorem zCt.zcx{S T:Nat->Prop}{w w':World}{v0 v1:Value}{p:zE}(h:zCt w S v0 v1 p)(t:zJ T w w')(hs:∀k,S k->¬T k):zCt w' S v0 v1 p:=by
 obtain⟨bs,hb,kb,kv,h1,h2,h3,h4,h5⟩:=h;have out:∀k,zGT bs kb p.n p.s k\/(0<p.hn/\k=hb)->¬T k:=fun k hk=>hs k (h5 k hk)
 exact⟨bs,hb,kb,kv,h1.zcx t (fun h0=>out _ (Or.inl (Or.inl ⟨h0,rfl⟩))) (fun i hi h=>out _ (Or.inl (Or.inr ⟨i,hi,h,rfl⟩))),h2,h3.zcx t (fun h0=>out _ (Or.inr ⟨h0,rfl⟩)),h4,h5⟩
theorem zCt.at{w:World}{S:Nat->Prop}{lo hi:Nat}{v0 v1:Value}{p:zE}(h:zCt w S v0 v1 p)(hS:∀k,S k->lo<=k/\k<hi):zCV w lo hi v0 v1 p:=(h.own hS).at
theorem zR6{p q:zE}{xs xb x y b:Int}{n:Nat}(h1:zCm p xs xb n b ⟨p,0,0,0⟩ 1=⟨q,x,y,0⟩)(hN:zEZ (zBo p xs xb n 0 x) (zBl p xs xb n 0 y)):zH4 p xs xb n b ⟨p,0,0,0⟩=⟨q,0,0,zTJ p xs xb n 3,0⟩:=by
 have e2:zCm p xs xb n b ⟨p,0,0,0⟩ 2=⟨q,0,0,0⟩:=by
  show zRb p xs xb n b (zCm p xs xb n b ⟨p,0,0,0⟩ 1) 0=_;rw[h1];exact if_pos hN
 rw[zMc (fun j hj=>by
  rcases j with _ | _ | _ | j
  ·rfl
  ·rw[h1]
  ·rw[e2]
  ·omega),e2]
theorem zR8{p q:zE}{xs xb x y b:Int}{n i:Nat}(h1:zCm p xs xb n b ⟨p,0,0,0⟩ 1=⟨q,x,y,0⟩)(hN:¬zEZ (zBo p xs xb n 0 x) (zBl p xs xb n 0 y))(hR:zq q)(hF:zDZ q (zBx (zBo p xs xb n 0 x) (zBl p xs xb n 0 y) b))(hi:zBi q.n q.s i) :
  zH4 p xs xb n b ⟨p,0,0,0⟩=⟨zBJ q i (zBx (zBo p xs xb n 0 x) (zBl p xs xb n 0 y) b),(i:Int),b,zTJ p xs xb n 3,0⟩:=by
 have e2:zCm p xs xb n b ⟨p,0,0,0⟩ 2=⟨zBJ q i (zBx (zBo p xs xb n 0 x) (zBl p xs xb n 0 y) b),(i:Int),b,0⟩:=by
  show zRb p xs xb n b (zCm p xs xb n b ⟨p,0,0,0⟩ 1) 0=_;rw[h1];exact(if_neg hN).trans (zJj ⟨hR,zAz hF,hF⟩ hi)
 rw[zMc (fun j hj=>by
  rcases j with _ | _ | _ | j
  ·rfl
  ·rw[h1]
  ·rw[e2]
  ·omega),e2]
theorem zOv{p q:zE}{xs xb x y b:Int}{n:Nat}(h1:zCm p xs xb n b ⟨p,0,0,0⟩ 1=⟨q,x,y,0⟩)(hN:¬zEZ (zBo p xs xb n 0 x) (zBl p xs xb n 0 y))(hR:zq q)(hF:zDZ q (zBx (zBo p xs xb n 0 x) (zBl p xs xb n 0 y) b))(aA:∀j,j<q.n->¬zAA (q.s j)) :
  zH4 p xs xb n b ⟨p,0,0,0⟩=zBk 6:=by
 have e2:zCm p xs xb n b ⟨p,0,0,0⟩ 2=⟨zEi 0,0,0,6⟩:=by
  show zRb p xs xb n b (zCm p xs xb n b ⟨p,0,0,0⟩ 1) 0=_;rw[h1];exact(if_neg hN).trans (zGL ⟨hR,zAz hF,hF⟩ aA)
 rw[zLM (k:=1) (by omega) (fun j hj=>by
    rcases j with _ | _ | j
    ·rfl
    ·rw[h1]
    ·omega) (by rw[e2];decide),e2]
theorem zcr{p:zE}{xs xb b:Int}{n:Nat}(hN:zEZ (zBo p xs xb n 1 0) (zBl p xs xb n 1 0)):zCm p xs xb n b ⟨p,0,0,0⟩ 1=⟨p,0,0,0⟩:=if_pos hN
theorem zct{p:zE}{xs xb b:Int}{n i:Nat}(hT:zAm p xs xb)(hn:n<64)(hB:zBR xb b)(hN:¬zEZ (zBo p xs xb n 1 0) (zBl p xs xb n 1 0))(hi:zBi p.n p.s i) :
  zCm p xs xb n b ⟨p,0,0,0⟩ 1=⟨zBJ p i (zBx (zBo p xs xb n 1 0) (zBl p xs xb n 1 0) b),(i:Int),b,0⟩:=by
 have hF:zDZ p (zBx (zBo p xs xb n 1 0) (zBl p xs xb n 1 0) b):=zFH hT hn (by omega) hB (fun s t h=>h) (Or.inl ⟨rfl,rfl⟩);exact(if_neg hN).trans (zJj ⟨hT.1,zAz hF,hF⟩ hi)
theorem zXc{p:zE}{xs xb b:Int}{n:Nat}(hT:zAm p xs xb)(hn:n<64)(hB:zBR xb b)(hN:¬zEZ (zBo p xs xb n 1 0) (zBl p xs xb n 1 0))(aA:∀j,j<p.n->¬zAA (p.s j)):zH4 p xs xb n b ⟨p,0,0,0⟩=zBk 6:=by
 have hF:zDZ p (zBx (zBo p xs xb n 1 0) (zBl p xs xb n 1 0) b):=zFH hT hn (by omega) hB (fun s t h=>h) (Or.inl ⟨rfl,rfl⟩);have e1:zCm p xs xb n b ⟨p,0,0,0⟩ 1=⟨zEi 0,0,0,6⟩:=(if_neg hN).trans (zGL ⟨hT.1,zAz hF,hF⟩ aA);rw[zLM (k:=0) (by omega) (fun j hj=>by cases (show j=0 from by omega);rfl) (by rw[e1];decide),e1]
theorem zYy{f g:Nat->Int}:(∃i,i<8/\¬Nil (f i) (g i))↔¬zEZ f g:=by
 constructor
 ·rintro⟨i,hi,h⟩ hA;exact h (hA i hi)
 ·intro h;apply Classical.byContradiction;intro hx;exact h fun i hi=>Classical.byContradiction fun hn=>hx ⟨i,hi,hn⟩
end Go.Proofs.YtbplmbafodlboaaGreatDoor
