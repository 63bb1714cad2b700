/- A part of the proof. -/
import Derived.Test.YtjganmlaooofoaaGreatDoorF12
import Derived.Deep.RegionLawGrows
import Derived.Scope
import Derived.WalkMore
import Derived.Deep.MidRow
set_option linter.unusedVariables false
set_option maxRecDepth 20000
set_option maxHeartbeats 4000000
namespace Go.Proofs.YtjganmlaooofoaaGreatDoor
open Go.RowKit
theorem zaC{w:World}{b off n:Nat}{f:Nat->zN}{cv:Nat->Value}(h:∀i,i<n->w.cell? ⟨b,off+i*3,none⟩=some (.int .i64 (f i).birth)/\w.cell? ⟨b,off+i*3+1,none⟩=some (cv i)/\w.cell? ⟨b,off+i*3+2,none⟩=some (.string (f i).data)) :
  ∀j u,(sc f cv n)[j]?=some u->w.cell? ⟨b,off+j,none⟩=some u:=by
 intro j u hj;have aA:j<n*3:=by
  have:=(List.getElem?_eq_some_iff.1 hj).1
  rwa [zNp]at this
 obtain⟨c0,c1,c2⟩:=h (j / 3) (by omega);have e:=zV3 f cv n (j / 3) (j % 3) (by omega) (by omega);rw[show j / 3*3+j % 3=j by omega,hj]at e;rcases(by omega:j % 3=0\/j % 3=1\/j % 3=2)with hm | hm | hm
 ·rw[hm]at e;simp at e;subst e;rw[show off+j=off+j / 3*3 by omega];exact c0
 ·rw[hm]at e;simp at e;subst e;rw[show off+j=off+j / 3*3+1 by omega];exact c1
 ·rw[hm]at e;simp at e;subst e;rw[show off+j=off+j / 3*3+2 by omega];exact c2
theorem zA3.values{w:World}{lo hi:Nat}{a:Option Addr}{n c:Nat}{f:Nat->zN}(h:zA3 w lo hi (.slice a n c) n f) :
  ∃cv:Nat->Value,(∀i,i<n->zCK w lo hi (.int .i64 (f i).birth) (cv i) (.string (f i).data) (f i))/\
   (0<n->∃b off,a=some ⟨b,off,none⟩/\lo<=b/\b<hi/\∀j u,(sc f cv n)[j]?=some u->w.cell? ⟨b,off+j,none⟩=some u):=by
 obtain⟨_,a0,c0,h0,_,g⟩:=h;simp only[Value.slice.injEq,true_and]at h0;obtain⟨rfl,rfl⟩:=h0;by_cases hn:0<n
 ·obtain⟨b,off,ha,bA,cA,hc⟩:=g hn;have dA:∀i,∃x,i<n->(w.cell? ⟨b,off+i*3,none⟩=some (.int .i64 (f i).birth)/\w.cell? ⟨b,off+i*3+1,none⟩=some x/\w.cell? ⟨b,off+i*3+2,none⟩=some (.string (f i).data))/\zCK w lo hi (.int .i64 (f i).birth) x (.string (f i).data) (f i):=fun i=>by
   by_cases hi:i<n
   ·obtain⟨v0,v1,v2,q0,q1,q2,hs⟩:=hc i hi;have eA:=hs;obtain⟨rfl,_,rfl,_⟩:=eA;exact⟨v1,fun _=>⟨⟨q0,q1,q2⟩,hs⟩⟩
   ·exact⟨.slice none 0 0,fun h=>absurd h hi⟩
  obtain⟨cv,aA⟩:=Classical.axiomOfChoice dA;exact⟨cv,fun i hi=>(aA i hi).2,fun _=>⟨b,off,ha,bA,cA,zaC fun i hi=>(aA i hi).1⟩⟩
 ·exact⟨fun _=>.slice none 0 0,fun i hi=>absurd hi (by omega),fun h=>absurd h hn⟩
theorem zCK.zeQ{w:World}{lo hi:Nat}{v0 v1 v2:Value}{s:zN}(h:zCK w lo hi v0 v1 v2 s):∃ka kc,v1 = .slice ka s.kn kc:=by
 obtain⟨_,⟨_,ka,kc,h,_⟩,_⟩:=h;exact⟨ka,kc,h⟩
structure zOE (wr:World) (bs n k:Nat) (f:Nat->zN) (kb:Nat->Nat) (kv cv:Nat->Value):Prop where
 cells:∀j,j<n->zY wr bs (j*3) (.int .i64 (f j).birth)/\zY wr bs (j*3+1) (if j<k then kv j else cv j)/\zY wr bs (j*3+2) (.string (f j).data)
 kids:∀j,j<k->zAY wr (kb j) (kv j) (f j).kn (f j).ks (f j).kb
 zeO:∀j,j<k->0<(f j).kn->bs<kb j/\kb j<wr.heap.size
 zeN:zGH kb k f
theorem zOE.zeF{wr w':World}{bs n k:Nat}{f:Nat->zN}{kb:Nat->Nat}{kv cv:Nat->Value}(h:zOE wr bs n k f kb kv cv)(t:Below wr.heap.size wr w'):zOE w' bs n k f kb kv cv:=
 ⟨fun j hj=>⟨(h.cells j hj).1.zeF t,(h.cells j hj).2.1.zeF t,(h.cells j hj).2.2.zeF t⟩,fun j hj=>(h.kids j hj).zeF t,fun j hj h0=>by have:=h.zeO j hj h0;have:=t.size;omega,h.zeN⟩
theorem zOE.next{wr w1:World}{bs n k b:Nat}{f:Nat->zN}{kb:Nat->Nat}{kv cv:Nat->Value}{v:Value}(h:zOE wr bs n k f kb kv cv)(hk:k<n)(bA:bs<wr.heap.size)(t:Below wr.heap.size wr w1)
  (hp:zAY w1 b v (f k).kn (f k).ks (f k).kb) (hb:0<(f k).kn->wr.heap.size<=b/\b<w1.heap.size) :
  zOE (((w1.setCell ⟨bs,k*3,none⟩ (.int .i64 (f k).birth)).setCell ⟨bs,k*3+1,none⟩ v).setCell ⟨bs,k*3+2,none⟩ (.string (f k).data)) bs n (k+1) f (fun j=>if j=k then b else kb j) (fun j=>if j=k then v else kv j) cv:=by
 have h':=h.zeF t;refine⟨fun j hj=>?_,fun j hj=>?_,fun j hj h0=>?_,fun i j hi hj aA h1 h2=>?_⟩
 ·obtain⟨c0,c1,c2⟩:=h'.cells j hj;by_cases e:j=k
  ·subst e;rw[if_pos (by omega),if_pos rfl];exact⟨((c0.set _).other _ (Or.inr (by omega))).other _ (Or.inr (by omega)),((c1.other _ (Or.inr (by omega))).set _).other _ (Or.inr (by omega)),((c2.other _ (Or.inr (by omega))).other _ (Or.inr (by omega))).set _⟩
  ·rw[if_neg e];have es:(if j<k+1 then kv j else cv j)=if j<k then kv j else cv j:=by
    by_cases e2:j<k
    ·rw[if_pos e2,if_pos (by omega)]
    ·rw[if_neg e2,if_neg (by omega)]
   rw[es];exact⟨((c0.other _ (Or.inr (by omega))).other _ (Or.inr (by omega))).other _ (Or.inr (by omega)),((c1.other _ (Or.inr (by omega))).other _ (Or.inr (by omega))).other _ (Or.inr (by omega)),((c2.other _ (Or.inr (by omega))).other _ (Or.inr (by omega))).other _ (Or.inr (by omega))⟩
 ·by_cases e:j=k
  ·subst e;simp only[if_true];refine((hp.zeG (zJ.put _ _ _ _) ?_).zeG (zJ.put _ _ _ _) ?_).zeG (zJ.put _ _ _ _) ?_
   all_goals exact fun h0 hx=>by have:=hb h0;omega
  ·simp only[if_neg e];refine(((h'.kids j (by omega)).zeG (zJ.put _ _ _ _) ?_).zeG (zJ.put _ _ _ _) ?_).zeG (zJ.put _ _ _ _) ?_
   all_goals exact fun h0 hx=>by have:=h'.zeO j (by omega) h0;omega
 ·simp only[World.size_setCell];by_cases e:j=k
  ·subst e;rw[if_pos rfl];have:=hb h0;omega
  ·rw[if_neg e];have:=h'.zeO j (by omega) h0;omega
 ·show(if i=k then b else kb i)≠(if j=k then b else kb j);by_cases e1:i=k
  ·by_cases e2:j=k
   ·omega
   ·rw[if_pos e1,if_neg e2];subst e1;have:=hb h1;have:=h.zeO j (by omega) h2;omega
  ·by_cases e2:j=k
   ·rw[if_neg e1,if_pos e2];subst e2;have:=hb h2;have:=h.zeO i (by omega) h1;omega
   ·rw[if_neg e1,if_neg e2];exact h.zeN i j (by omega) (by omega) aA h1 h2
theorem zOE.own{wr:World}{bs n:Nat}{f:Nat->zN}{kb:Nat->Nat}{kv cv:Nat->Value}{a:Option Addr}{c:Nat}(h:zOE wr bs n n f kb kv cv)(hm:n<=maxLen)(ha:0<n->a=some ⟨bs,0,none⟩)(hc:n<=c)(hs:∀j,j<n->(f j).data.size<=maxLen):zCL wr bs kb kv (.slice a n c) n f:=
 ⟨hm,a,c,rfl,hc,fun h0=>⟨0,ha h0,fun i hi=>by
  obtain⟨c0,c1,c2⟩:=h.cells i hi;rw[if_pos hi]at c1;rw[Nat.zero_add];exact⟨c0,c1,c2,h.kids i hi,hs i hi,fun hk e=>by have:=h.zeO i hi hk;omega⟩⟩⟩
theorem zHc(v:Value)(n lo hi:Nat)(f:Nat->zN)(w:World)(h1:zA3 w lo hi v n f)(hn:n<=1048576)(hk:∀j,j<n->(f j).kn<=1048576) :
  Calls Tryz.prog 145 #[v] w fun e w'=>∃v' bs kb kv,e = .returned v'/\zCL w' bs kb kv v' n f/\zGH kb n f/\(∀k,zEs bs kb n f k->w.heap.size<=k/\k<w'.heap.size)/\Below w.heap.size w w':=by
 have Hm:=yn h1.1;have q1:=h1;obtain⟨_,a,c,rfl,_,_⟩:=h1;obtain⟨cv,bA,mA⟩:=q1.values;have pA:=yn bA;have Hk:=yn hk;have dA:0<n->∃b off,a=some ⟨b,off,none⟩/\∀j u,(sc f cv n)[j]?=some u->w.cell? ⟨b,off+j,none⟩=some u:=fun h0=>by
  obtain⟨b,off,h2,_,_,h3⟩:=mA h0;exact⟨b,off,h2,h3⟩
 have kA:=zdF f cv n (fun i hi=>by obtain⟨ka,kc,e⟩:=(bA i hi).zeQ;rw[e];rfl);clear bA hk q1 mA;go_enter Tryz.func145,Tryz.ntmps145;go_wp2_with fail;refine(zMW a n c (sc f cv n) w (zNp _ _ _) kA hn dA).mono ?_;rintro e w1 ⟨v',rfl,eA,bB,_⟩;obtain⟨a1,c1,rfl,fB⟩:=zs eA;clear kA dA;have oA:∃bs,(0<n->a1=some ⟨bs,0,none⟩/\w.heap.size<=bs/\bs<w1.heap.size)/\zOE w1 bs n 0 f (fun _=>0) cv cv:=by
  by_cases h0:0<n
  ·obtain⟨g,cap,hv,_,jA,tA,aA⟩:=zCm eA h0;simp only[Value.slice.injEq,true_and]at hv;obtain⟨rfl,rfl⟩:=hv;refine⟨g,fun _=>⟨rfl,jA,tA⟩,fun j hj=>⟨?_,?_,?_⟩,fun j hj=>absurd hj (Nat.not_lt_zero _),fun j hj=>absurd hj (Nat.not_lt_zero _),fun i j hi=>absurd hi (Nat.not_lt_zero _)⟩
   ·have:=aA (j*3+0) _ (zV3 f cv n j 0 hj (by omega));simpa using this
   ·have:=aA (j*3+1) _ (zV3 f cv n j 1 hj (by omega));simpa using this
   ·have:=aA (j*3+2) _ (zV3 f cv n j 2 hj (by omega));simpa using this
  ·exact⟨0,fun h=>absurd h h0,fun j hj=>absurd hj (by omega),fun j hj=>absurd hj (Nat.not_lt_zero _),fun j hj=>absurd hj (Nat.not_lt_zero _),fun i j hi=>absurd hi (Nat.not_lt_zero _)⟩
 obtain⟨bs,oA,cA⟩:=oA;have nA:=yn oA;have gA:=yn cA;clear eA oA cA;go_wp2
 go_loopw [4,5,10] (fun _ _ i wr=>∃(k:Nat) (kb:Nat->Nat) (kv:Nat->Value),k<=n/\i = .int .i64 k/\zOE wr bs n k f kb kv cv/\Below w.heap.size w wr/\w1.heap.size<=wr.heap.size) (fun _ _ i _=>n - (intOf i).toNat)
 case atStart=>exact⟨0,_,_,Nat.zero_le _,rfl,gA.out,bB,Nat.le_refl _⟩
 case round=>
  obtain⟨k,kb,kv,hk,rfl,hh,hb,hz⟩:=hrel;have Hh:=yn hh;clear hh;by_cases fA:k<n
  ·have eB:(k:Int)<(n:Int):=(by omega);obtain⟨rfl,jA,tA⟩:=nA.out (by omega);obtain⟨ka,kc,bA⟩:=(pA.out k fA).zeQ;have aB:Hid (zCK wr lo hi (.int .i64 (f k).birth) (.slice ka (f k).kn kc) (.string (f k).data) (f k)):=by
    have:=(pA.out k fA).zeF hb;rw[bA]at this;exact this
   obtain⟨⟨q0,r0⟩,q1,⟨q2,r2⟩⟩:=Hh.out.cells k fA;rw[if_neg (by omega),bA]at q1;obtain⟨q1,r1⟩:=q1;go_wp2_with fail;have ha:=zD wr (.cells #[.int .i64 (f k).birth,.slice ka (f k).kn kc,.string (f k).data] 101);refine(zOI _ _ _ lo hi (f k) _ (aB.out.zeF ha) (Hk.out k fA)).mono ?_;rintro e w2 ⟨nv,nb,rfl,rA,lA,sA⟩;obtain⟨_,na,nc,rfl,_⟩:=id rA;have iA:=zA ha sA;have vA:=yn (Hh.out.next fA (by omega) iA rA (fun h0=>by have:=lA h0;rw[World.size_alloc]at this;omega));have cB:=zA hb iA;have gB:=iA.size;clear q0 q1 q2 r0 r1 r2;obtain⟨⟨q0,r0⟩,q1,⟨q2,r2⟩⟩:=(Hh.out.zeF iA).cells k fA;rw[if_neg (by omega),bA]at q1;obtain⟨q1,r1⟩:=q1;clear rA lA sA ha iA bA;go_wp2;go_roundw
   case rel=>exact⟨k+1,_,_,by omega,by go_num,vA.out,((cB.setCell jA _).setCell jA _).setCell jA _,by simp only[World.size_setCell];omega⟩
   case measure=>simp[intOf];omega
  ·obtain rfl:k=n:=(by omega);go_wp2;go_ret;refine⟨_,bs,kb,kv,rfl,Hh.out.own Hm.out (fun h0=>(nA.out h0).1) fB (fun j hj=>(pA.out j hj).2.2.2),Hh.out.zeN,fun j hj=>?_,hb⟩;rcases hj with⟨h0,rfl⟩ | ⟨i,hi,h0,rfl⟩
   ·have:=nA.out h0;omega
   ·have:=nA.out (by omega);have:=Hh.out.zeO i hi h0;omega
theorem zIc(v0 v1:Value)(lo hi:Nat)(p:zF)(w:World)(h1:zCG w lo hi v0 v1 p)(hn:qs p<=1048576):Calls Tryz.prog 99 #[.agg #[v0,v1]] w (zad p w):=by
 have Hp:=yn h1;obtain⟨⟨m1,a,c,rfl,mc,g1⟩,⟨m2,a',c',rfl,gB,g2⟩⟩:=h1;have Hm:=yn (And.intro m1 m2);clear g1 g2 m1 m2;unfold qs at hn;have Hn:Hid (∀j,j<p.n->(p.s j).kn<=1048576):=fun j hj=>by have h2:=zSr p.s hj;unfold zCu at h2;omega
 have aB:p.n<=1048576:=by omega
 have bB:p.hn<=1048576:=by omega
 clear hn;have nA:=zD w (.cells #[.slice a p.n c,.slice a' p.hn c'] 26);have iA:=zA nA (zD _ (.cells #[.slice none 0 0,.slice none 0 0] 26));have HB:=yn ((zAT.new w (.slice a p.n c) (.slice a' p.hn c') 26).zeF (zD _ (.cells #[.slice none 0 0,.slice none 0 0] 26)));have lA:=zAT.new (w.alloc (.cells #[.slice a p.n c,.slice a' p.hn c'] 26)) (.slice none 0 0) (.slice none 0 0) 26;rw[World.size_alloc]at lA;have HR:=yn lA;clear nA lA;go_enter Tryz.func99,Tryz.ntmps99;go_wp2_with fail;generalize hW:(w.alloc (.cells #[.slice a p.n c,.slice a' p.hn c'] 26)).alloc (.cells #[.slice none 0 0,.slice none 0 0] 26)=W at HB HR iA ⊢;have hz:W.heap.size=w.heap.size+2:=by rw[<-hW,World.size_alloc,World.size_alloc]
 clear hW;obtain⟨⟨x0,x1⟩,⟨x2,x3⟩⟩:=HB.out;obtain⟨⟨y0,y1⟩,⟨y2,y3⟩⟩:=HR.out;go_region_held3 (fun w'=>w'.cell? ⟨w.heap.size,0,none⟩=some (.slice a p.n c)/\w'.cell? ⟨w.heap.size,1,none⟩=some (.slice a' p.hn c')) (go_keep)
  (first
   | (go_at_call 145;refine(zHc _ p.n lo hi p.s _ ?_ aB Hn.out).mono ?_;(exact Hp.out.1.zeF iA.drew);rintro e w1 ⟨v',bs,kb,kv,rfl,ho,oA,rA,pA⟩;obtain⟨_,sa,kA,rfl,_⟩:=id ho;have aA:=qF pA;obtain⟨⟨z0,z1⟩,⟨z2,z3⟩⟩:=HB.out.zeF aA)
   | (go_at_call 146;refine(zOH _ _ _ (ic p.h p.hn) _ (zHk _ _) (zcy _ _) bB ?_).mono ?_;(exact zVd Hp.out.2 rfl (zA iA aA));rintro e w2 ⟨v',rfl,dA,gA,cB⟩;obtain⟨ia,jA,rfl,_⟩:=zs dA;have bA:=zA aA gA;obtain⟨⟨z4,z5⟩,⟨z6,z7⟩⟩:=HB.out.zeF bA;have sA:=yn (HR.out.zeF bA);obtain⟨⟨z8,z9⟩,⟨iB,jB⟩⟩:=HR.out.zeF bA))
 obtain⟨hb,fA,cA⟩:=zQX Hm.out.2 dA cB;have eB:W.heap.size<=w1.heap.size:=aA.size;have fB:w1.heap.size<=w2.heap.size:=gA.size;have eA:∀k,zEs bs kb p.n p.s k->W.heap.size<=k/\k<w1.heap.size:=rA;have tA:Hid (zAM w2 (w.heap.size+2) w2.heap.size (.slice sa p.n kA) (.slice ia p.hn jA) p):=by
  refine⟨bs,hb,kb,kv,ho.zeF gA,oA,fA,fun h0 hx=>?_,fun k hk=>?_⟩
  ·have:=eA _ hx;have:=cA h0;omega
  ·rcases hk with hk | ⟨h0,rfl⟩
   ·have:=eA _ hk;omega
   ·have:=cA h0;omega
 have vA:=zA iA bA;clear fA cA rA eA ho oA dA pA aA gA bA;go_wp2;have mA:=sA.out.put (.slice sa p.n kA) (.slice ia p.hn jA);refine bodyPost_ret (v:=.agg #[.slice sa p.n kA,.slice ia p.hn jA]) (by simp[results,Tryz.results99,go_sem,mA.1.1,mA.2.1]) rfl ⟨_,_,rfl,?_,?_⟩
 ·have t:=(zJ.put w2 (w.heap.size+1) 0 (.slice sa p.n kA)).trans (zJ.put _ (w.heap.size+1) 1 (.slice ia p.hn jA));have hz:=t.size;exact(tA.out.zeG t (fun k hk=>by omega)).wide (by omega) hz
 ·exact(vA.setCell (by show _<=w.heap.size+1;omega) _).setCell (by show _<=w.heap.size+1;omega) _
def zBw(p:zF)(xs:Int):zF:={n:=p.n,s:=p.s,hn:=p.hn+1,h:=fun i=>if i=p.hn then xs else p.h i}
open Classical in
noncomputable def zMu(p:zF)(xs xb:Int):zKY:=if zg p then(if qp p xs xb/\¬Has p.hn p.h xs then⟨zBw p xs,0,0,0⟩else⟨zEw 0,0,0,4⟩)else⟨zEw 0,0,0,1⟩
theorem zWg{p:zF}{xs xb:Int}(h:¬zg p):zMu p xs xb=⟨zEw 0,0,0,1⟩:=if_neg h
theorem zPE{p:zF}{xs xb:Int}(h:zg p)(h':¬(qp p xs xb/\¬Has p.hn p.h xs)):zMu p xs xb=⟨zEw 0,0,0,4⟩:=(if_pos h).trans (if_neg h')
theorem zU4{p:zF}{xs xb:Int}(h:zg p)(h':qp p xs xb)(aA:¬Has p.hn p.h xs):zMu p xs xb=⟨zBw p xs,0,0,0⟩:=(if_pos h).trans (if_pos ⟨h',aA⟩)
theorem zYT{f g:Nat->Int}{n:Nat}(h:∀i,i<n->f i=g i):ic f n=ic g n:=by
 induction n with
 | zero=>rfl
 | succ n ih=>
  unfold ic;rw[ih (fun i hi=>h i (by omega)),h n (by omega)]
theorem za5(p:zF)(xs:Int):ic (zBw p xs).h (p.hn+1)=ic p.h p.hn ++ [.int .i64 xs]:=by
 show ic (zBw p xs).h p.hn ++ [.int .i64 ((zBw p xs).h p.hn)]=_;rw[zYT (f:=(zBw p xs).h) (g:=p.h) (fun i hi=>if_neg (by omega)),show(zBw p xs).h p.hn=xs from if_pos rfl]
theorem zdO(w:World)(a0 a1 x0 x1:Value)(t1 t2 t3:TypeId) :
  zAT (((w.alloc (.cells #[a0,a1] t1)).alloc (.cells #[x0,x1] t2)).alloc (.cells #[.slice none 0 0,.slice none 0 0,.int .i64 0,.int .i64 0,.int .i64 0] t3)) w.heap.size a0 a1/\
  zAT (((w.alloc (.cells #[a0,a1] t1)).alloc (.cells #[x0,x1] t2)).alloc (.cells #[.slice none 0 0,.slice none 0 0,.int .i64 0,.int .i64 0,.int .i64 0] t3)) (w.heap.size+1) x0 x1/\
  zOD (((w.alloc (.cells #[a0,a1] t1)).alloc (.cells #[x0,x1] t2)).alloc (.cells #[.slice none 0 0,.slice none 0 0,.int .i64 0,.int .i64 0,.int .i64 0] t3)) (w.heap.size+1+1) (.slice none 0 0) (.slice none 0 0) (.int .i64 0) (.int .i64 0) (.int .i64 0)/\
  Below w.heap.size w (((w.alloc (.cells #[a0,a1] t1)).alloc (.cells #[x0,x1] t2)).alloc (.cells #[.slice none 0 0,.slice none 0 0,.int .i64 0,.int .i64 0,.int .i64 0] t3))/\
  (((w.alloc (.cells #[a0,a1] t1)).alloc (.cells #[x0,x1] t2)).alloc (.cells #[.slice none 0 0,.slice none 0 0,.int .i64 0,.int .i64 0,.int .i64 0] t3)).heap.size=w.heap.size+3:=by
 refine⟨((zAT.new w a0 a1 t1).zeF (zD _ _)).zeF (zD _ _),?_,?_,zA (zA (zD _ _) (zD _ _)) (zD _ _),by simp⟩
 ·have:=(zAT.new (w.alloc (.cells #[a0,a1] t1)) x0 x1 t2).zeF (zD _ (.cells #[.slice none 0 0,.slice none 0 0,.int .i64 0,.int .i64 0,.int .i64 0] t3));rw[World.size_alloc]at this;exact this
 ·have:=zOD.new ((w.alloc (.cells #[a0,a1] t1)).alloc (.cells #[x0,x1] t2)) (.slice none 0 0) (.slice none 0 0) (.int .i64 0) (.int .i64 0) (.int .i64 0) t3;rw[World.size_alloc,World.size_alloc]at this;exact this
theorem zbW{w wr:World}{lo hi R:Nat}{s0 s1 u2 u3 u4:Value}{p:zF}(ho:zAM wr lo hi s0 s1 p)(aA:R<lo)(cA:w.heap.size<=R)(bA:hi<=wr.heap.size)(hb:Below w.heap.size w wr) :
  zAM (put5 wr R s0 s1 u2 u3 u4) w.heap.size (put5 wr R s0 s1 u2 u3 u4).heap.size s0 s1 p/\Below w.heap.size w (put5 wr R s0 s1 u2 u3 u4):=by
 have t:=zJ.put5 wr R s0 s1 u2 u3 u4;have hz:=t.size;exact⟨(ho.zeG t (fun k hk=>by omega)).wide (by omega) (by omega),hb.trans (t.zeF (by have:=hb.size;omega) (fun k hk=>by omega))⟩
theorem zNX{w wr:World}{R:Nat}{u2 u3 u4:Value}(aA:w.heap.size<=R)(hb:Below w.heap.size w wr) :
  zAM (put5 wr R (.slice none 0 0) (.slice none 0 0) u2 u3 u4) w.heap.size (put5 wr R (.slice none 0 0) (.slice none 0 0) u2 u3 u4).heap.size (.slice none 0 0) (.slice none 0 0) (zEw 0)/\Below w.heap.size w (put5 wr R (.slice none 0 0) (.slice none 0 0) u2 u3 u4):=by
 have t:=zJ.put5 wr R (.slice none 0 0) (.slice none 0 0) u2 u3 u4;exact⟨zSZ,hb.trans (t.zeF (by have:=hb.size;omega) (fun k hk=>by omega))⟩
theorem zdr(w:World)(x:Value)(t:TypeId):∀j u,[x][j]?=some u->(w.alloc (.cells #[x] t)).cell? ((⟨w.heap.size,0,none⟩:Addr).add j)=some u:=by
 intro j u hj
 match j,hj with
 | 0,hj=>simp at hj;subst hj;simp[Addr.add]
 | (j+1),hj=>simp at hj
theorem zdt(x:Int):∀u∈[Value.int .i64 x],u.oneCell'=true:=by
 intro u hu;simp only[List.mem_cons,List.not_mem_nil,or_false]at hu;rw[hu];rfl
theorem zVq{w:World}{lo hi:Nat}{f:Nat->Int}{n c:Nat}{a:Option Addr}(h:zCn w lo hi (.slice a n c) n f){w':World}(hb:Below w.heap.size w w'):∀b,a=some b->∀j u,(ic f n)[j]?=some u->w'.cell? (b.add j)=some u:=by
 intro b aA j u hj;have bA:j<n:=by
  have:=(List.getElem?_eq_some_iff.1 hj).1;rw[zHk]at this;omega
 obtain⟨b0,off,ha,hc⟩:=zVd h rfl hb (by omega);rw[ha]at aA;simp only[Option.some.injEq]at aA;subst aA;rw[add_lit];exact hc j u hj
theorem zSY{w:World}{lo hi:Nat}{f:Nat->Int}{n c:Nat}{a:Option Addr}(h:zCn w lo hi (.slice a n c) n f):a=none->n=0/\n=0:=fun e=>by
 obtain⟨_,a2,c2,hv,_,hx⟩:=h;simp only[Value.slice.injEq,true_and]at hv;obtain⟨rfl,rfl⟩:=hv;by_cases h0:0<n
 ·obtain⟨b,off,ha,_⟩:=hx h0;rw[ha]at e;cases e
 ·omega
theorem zHY{w w':World}(h:w.grownBy w' none):Below w.heap.size w w':=⟨h.os,h.tape,h.output,h.size,fun k hk=>h.block k hk (by simp)⟩
theorem zZZ{w:World}{b:Nat}{x:Value}(h:w.cell? ⟨b,0,none⟩=some x):∀j u,[x][j]?=some u->w.cell? ((⟨b,0,none⟩:Addr).add j)=some u:=by
 intro j u hj
 match j,hj with
 | 0,hj=>simp at hj;subst hj;rw[add_lit];exact h
 | (j+1),hj=>simp at hj
def zBt(p:zF)(i:Nat)(s:zN):zF:={n:=p.n,s:=fun j=>if j=i then s else p.s j,hn:=p.hn,h:=p.h}
def zBf(n:Nat)(f:Nat->zN)(i:Nat):Prop:=i<n/\zAO (f i)/\∀j,j<i->¬zAO (f j)
theorem zBf.uniq{n:Nat}{f:Nat->zN}{i j:Nat}(h:zBf n f i)(h':zBf n f j):i=j:=by
 rcases Nat.lt_trichotomy i j with e | e | e
 ·exact absurd h.2.1 (h'.2.2 i e)
 ·exact e
 ·exact absurd h'.2.1 (h.2.2 j e)
open Classical in
noncomputable def zCv(p:zF)(s:zN):zKY:=
 if zg p/\¬zAO s/\zDp p s then(if h:∃i,zBf p.n p.s i then⟨zBt p (Classical.choose h) s,((Classical.choose h:Nat):Int),s.birth,0⟩else⟨zEw 0,0,0,6⟩)else⟨zEw 0,0,0,1⟩
theorem zGf{p:zF}{s:zN}(h:zg p/\¬zAO s/\zDp p s)(h':∀j,j<p.n->¬zAO (p.s j)):zCv p s=⟨zEw 0,0,0,6⟩:=by
 unfold zCv;rw[if_pos h,dif_neg (fun ⟨i,hi⟩=>h' i hi.1 hi.2.1)]
theorem zKO{p:zF}{s:zN}{i:Nat}(h:zg p/\¬zAO s/\zDp p s)(h':zBf p.n p.s i):zCv p s=⟨zBt p i s,(i:Int),s.birth,0⟩:=by
 unfold zCv;have hx:∃i,zBf p.n p.s i:=⟨i,h'⟩;rw[if_pos h,dif_pos hx];have e:Classical.choose hx=i:=(Classical.choose_spec hx).uniq h';rw[e]
theorem zNx(f:Nat->zN)(i:Nat)(s:zN):∀n,zBp (fun j=>if j=i then s else f j) n<=zBp f n+(if i<n then zCu s else 0)
 | 0=>Nat.zero_le _
 | n+1=>by
  have ih:=zNx f i s n;show zBp (fun j=>if j=i then s else f j) n+zCu (if n=i then s else f n)<=zBp f n+zCu (f n)+_;by_cases e:n=i
  ·rw[if_pos e,if_pos (by omega)];rw[if_neg (by omega)]at ih;omega
  ·rw[if_neg e];by_cases e2:i<n
   ·rw[if_pos e2]at ih;rw[if_pos (by omega)];omega
   ·rw[if_neg e2]at ih;rw[if_neg (by omega)];omega
theorem zXY(p:zF)(i:Nat)(s:zN):qs (zBt p i s)<=qs p+zCu s:=by
 have h:=zNx p.s i s p.n;have h2:(if i<p.n then zCu s else 0)<=zCu s:=by split<;>omega
 show p.n+zBp (fun j=>if j=i then s else p.s j) p.n+p.hn<=p.n+zBp p.s p.n+p.hn+zCu s;omega
def zEq(f g:Nat->Int):Prop:=∀i,i<8->Nil (f i) (g i)
def zBz(f g:Nat->Int)(b:Int):zN:={birth:=b,kn:=8,ks:=f,kb:=g,data:=⟨#[]⟩}
open Classical in
noncomputable def zVh(p:zF)(f g:Nat->Int)(b:Int):zKY:=if zEq f g then⟨p,0,0,0⟩else zCv p (zBz f g b)
def hop(J:Nat->Act->World->Prop)(Q:Exit->Act->World->Prop):Exit->Act->World->Prop
 | .goto l,a,w=>J l a w
 | e,a,w=>Q e a w
def zIY(p:zF)(xs xb:Int)(n L:Nat):Int:=if L=0 then xs else if L=1 then zDm p xs xb n else zFc p xs xb n
def zLq(p:zF)(xs xb:Int)(n L:Nat):Int:=if L=0 then xb else if L=1 then zD5 p xs xb n else zFu p xs xb n
def plc(n L:Nat):Nat:=if L=0 then n / 8 else n % 8
def zbB(p:zF)(xs xb:Int)(n L j:Nat):Int:=if Nil (zIY p xs xb n L) (zLq p xs xb n L)then 0 else zj (p.s (zIY p xs xb n L).toNat) j
theorem zKB(p:zF)(xs xb:Int)(n:Nat){L:Nat}(h:L<2):zIY p xs xb n (L+1)=zbB p xs xb n L (plc n L*2)/\zLq p xs xb n (L+1)=zbB p xs xb n L (plc n L*2+1):=by
 rcases L with _ | _ | L
 ·exact⟨rfl,rfl⟩
 ·exact⟨rfl,rfl⟩
 ·omega
theorem zZs{n L:Nat}(h:n<64):plc n L<8:=by unfold plc;split<;>omega
theorem zbK{p:zF}{xs xb:Int}{n L:Nat}(h:Nil (zIY p xs xb n L) (zLq p xs xb n L))(hL:L<2):Nil (zIY p xs xb n (L+1)) (zLq p xs xb n (L+1)):=by
 rw[(zKB p xs xb n hL).1,(zKB p xs xb n hL).2];unfold zbB;rw[if_pos h,if_pos h];exact⟨rfl,rfl⟩
def zUN(p:zF)(xs xb:Int)(n k:Nat):List (Int×Int):=kidsUp (fun i=>zIY p xs xb n (2 - i)) (fun i=>zLq p xs xb n (2 - i)) k
open Classical in
noncomputable def roomN(f:Nat->zN):Nat->Nat
 | 0=>0
 | k+1=>roomN f k+(if zAO (f k)then 1 else 0)
theorem zEP{f:Nat->zN}{k:Nat}(h:zAO (f k)):roomN f (k+1)=roomN f k+1:=by simp[roomN,h]
theorem zEm{f:Nat->zN}{k:Nat}(h:¬zAO (f k)):roomN f (k+1)=roomN f k:=by simp[roomN,h]
theorem zKI(f:Nat->zN):∀k,roomN f k<=k
 | 0=>Nat.le_refl _
 | k+1=>by
  have:=zKI f k;by_cases h:zAO (f k)
  ·rw[zEP h];omega
  ·rw[zEm h];omega
open Classical in
noncomputable def zV0(p:zF):Int:=if zg p then(roomN p.s p.n:Int)else 0
theorem zNs(p:zF)(i:Nat)(s:zN):(zBt p i s).s i=s:=if_pos rfl
theorem zIS(p:zF){i j:Nat}(s:zN)(h:j≠i):(zBt p i s).s j=p.s j:=if_neg h
theorem zFe{p:zF}{i:Nat}{s:zN}{xs xb:Int}(hi:zAO (p.s i))(h:qp p xs xb):qp (zBt p i s) xs xb:=by
 obtain⟨h1,h2,h3,h4⟩:=h;refine⟨h1,h2,h3,?_⟩;have aA:xs.toNat≠i:=fun e=>by
  rw[e]at h4;have:=hi.1;omega
 rw[zIS p s aA];exact h4
theorem zRm{p:zF}{i:Nat}{s t:zN}(hi:zAO (p.s i))(h:zDp p t):zDp (zBt p i s) t:=by
 refine⟨h.1,?_⟩;rcases h.2 with h2 | h2
 ·exact Or.inl h2
 ·refine Or.inr ⟨h2.1,h2.2.1,fun m hm=>?_⟩;rcases h2.2.2 m hm with h3 | h3
  ·exact Or.inl h3
  ·exact Or.inr ⟨zFe hi h3.1,h3.2⟩
theorem zK3{p:zF}{i:Nat}{s:zN}(hR:zg p)(hi:zBf p.n p.s i)(hs:zDp p s):zg (zBt p i s):=by
 refine⟨hR.1,fun j hj=>?_,fun j hj=>?_⟩
 ·by_cases e:j=i
  ·rw[e,zNs];exact Or.inr (zRm hi.2.1 hs)
  ·rw[zIS p s e];rcases hR.2.1 j hj with h | h
   ·exact Or.inl h
   ·exact Or.inr (zRm hi.2.1 h)
 ·obtain⟨h1,h2,h3,h4⟩:=hR.2.2 j hj;refine⟨h1,h2,?_,h4⟩;have aA:(p.h j).toNat≠i:=fun e=>h3 (by rw[e];exact hi.2.1)
  show ¬zAO ((zBt p i s).s (p.h j).toNat);rw[zIS p s aA];exact h3
theorem zAo{p:zF}{s:zN}(h:zDp p s):¬zAO s:=fun hf=>by
 have:=hf.1;have:=h.1.1;omega
theorem zSg{p:zF}{i:Nat}{s:zN}(hi:zAO (p.s i))(hs:¬zAO s):∀n,roomN (zBt p i s).s n+(if i<n then 1 else 0)=roomN p.s n
 | 0=>rfl
 | n+1=>by
  have ih:=zSg hi hs n;by_cases e:n=i
  ·subst e;rw[if_pos (by omega)];rw[if_neg (by omega)]at ih;rw[zEm (by rw[zNs];exact hs),zEP hi];omega
  ·have aA:(zBt p i s).s n=p.s n:=zIS p s e;have bA:(if i<n+1 then 1 else 0)=(if i<n then 1 else 0):=by
    by_cases e2:i<n
    ·rw[if_pos e2,if_pos (by omega)]
    ·rw[if_neg e2,if_neg (by omega)]
   rw[bA];by_cases hf:zAO (p.s n)
   ·rw[zEP (by rw[aA];exact hf),zEP hf];omega
   ·rw[zEm (by rw[aA];exact hf),zEm hf];exact ih
def zAN(w:World)(b:Nat)(v0 v1 v2 v3 v4 v5:Value):Prop:=zY w b 0 v0/\zY w b 1 v1/\zY w b 2 v2/\zY w b 3 v3/\zY w b 4 v4/\zY w b 5 v5
theorem zAN.c{w:World}{b:Nat}{v0 v1 v2 v3 v4 v5:Value}(h:zAN w b v0 v1 v2 v3 v4 v5):w.cell? ⟨b,0,none⟩=some v0/\w.cell? ⟨b,1,none⟩=some v1/\w.cell? ⟨b,2,none⟩=some v2/\w.cell? ⟨b,3,none⟩=some v3/\w.cell? ⟨b,4,none⟩=some v4/\w.cell? ⟨b,5,none⟩=some v5:=
 ⟨h.1.1,h.2.1.1,h.2.2.1.1,h.2.2.2.1.1,h.2.2.2.2.1.1,h.2.2.2.2.2.1⟩
theorem zAN.zeF{w w':World}{b:Nat}{v0 v1 v2 v3 v4 v5:Value}(h:zAN w b v0 v1 v2 v3 v4 v5)(t:Below w.heap.size w w'):zAN w' b v0 v1 v2 v3 v4 v5:=⟨h.1.zeF t,h.2.1.zeF t,h.2.2.1.zeF t,h.2.2.2.1.zeF t,h.2.2.2.2.1.zeF t,h.2.2.2.2.2.zeF t⟩
theorem zAN.zeG{S:Nat->Prop}{w w':World}{b:Nat}{v0 v1 v2 v3 v4 v5:Value}(h:zAN w b v0 v1 v2 v3 v4 v5)(t:zJ S w w')(hs:¬S b):zAN w' b v0 v1 v2 v3 v4 v5:=⟨h.1.zeG t hs,h.2.1.zeG t hs,h.2.2.1.zeG t hs,h.2.2.2.1.zeG t hs,h.2.2.2.2.1.zeG t hs,h.2.2.2.2.2.zeG t hs⟩
theorem zAN.new(w:World)(v0 v1 v2 v3 v4 v5:Value)(t:TypeId):zAN (w.alloc (.cells #[v0,v1,v2,v3,v4,v5] t)) w.heap.size v0 v1 v2 v3 v4 v5:=by
 have hb:(w.alloc (.cells #[v0,v1,v2,v3,v4,v5] t)).heap[w.heap.size]?=some (.cells #[v0,v1,v2,v3,v4,v5] t):=heap_alloc_new _ _;exact⟨zK hb rfl,zK hb rfl,zK hb rfl,zK hb rfl,zK hb rfl,zK hb rfl⟩
abbrev put6(w:World)(b:Nat)(u0 u1 u2 u3 u4 u5:Value):World:=(((((w.setCell ⟨b,0,none⟩ u0).setCell ⟨b,1,none⟩ u1).setCell ⟨b,2,none⟩ u2).setCell ⟨b,3,none⟩ u3).setCell ⟨b,4,none⟩ u4).setCell ⟨b,5,none⟩ u5
theorem zAN.put{w:World}{b:Nat}{v0 v1 v2 v3 v4 v5:Value}(h:zAN w b v0 v1 v2 v3 v4 v5)(u0 u1 u2 u3 u4 u5:Value):zAN (put6 w b u0 u1 u2 u3 u4 u5) b u0 u1 u2 u3 u4 u5:=
 have H (i:Nat) (u v:Value) (e:[u0,u1,u2,u3,u4,u5][i]?=some u) (c:zY w b i v):zY (put6 w b u0 u1 u2 u3 u4 u5) b i u:=zKG [u0,u1,u2,u3,u4,u5] w 0 i i e (Nat.zero_add i) c
 ⟨H 0 _ _ rfl h.1,H 1 _ _ rfl h.2.1,H 2 _ _ rfl h.2.2.1,H 3 _ _ rfl h.2.2.2.1,H 4 _ _ rfl h.2.2.2.2.1,H 5 _ _ rfl h.2.2.2.2.2⟩
theorem zJ.put6(w:World)(b:Nat)(u0 u1 u2 u3 u4 u5:Value):zJ (fun k=>k=b) w (put6 w b u0 u1 u2 u3 u4 u5):=
 (((((zJ.put w b 0 u0).trans (zJ.put _ b 1 u1)).trans (zJ.put _ b 2 u2)).trans (zJ.put _ b 3 u3)).trans (zJ.put _ b 4 u4)).trans (zJ.put _ b 5 u5)
def zBo(p:zF)(xs xb:Int)(n L:Nat)(x:Int)(i:Nat):Int:=if i=plc n L then x else zFY p (zIY p xs xb n L) (zLq p xs xb n L) i
def zBk(p:zF)(xs xb:Int)(n L:Nat)(y:Int)(i:Nat):Int:=if i=plc n L then y else zFX p (zIY p xs xb n L) (zLq p xs xb n L) i
noncomputable def zSX(p:zF)(xs xb:Int)(n:Nat)(b:Int)(o:zKY)(L:Nat):zKY:=zVh o.pool (zBo p xs xb n L o.ps) (zBk p xs xb n L o.pb) b
noncomputable def zCp(p:zF)(xs xb:Int)(n:Nat)(b:Int)(o:zKY):Nat->zKY
 | 0=>o
 | k+1=>zSX p xs xb n b (zCp p xs xb n b o k) (1 - k)
theorem zNV:qs (zEw 0)=0:=rfl
theorem zN3(p:zF)(s:zN):qs (zCv p s).pool<=qs p+zCu s:=by
 unfold zCv;split
 ·split
  ·exact zXY _ _ _
  ·show qs (zEw 0)<=_;rw[zNV];omega
 ·show qs (zEw 0)<=_;rw[zNV];omega
theorem zUL(p:zF)(f g:Nat->Int)(b:Int):qs (zVh p f g b).pool<=qs p+8:=by
 unfold zVh;split
 ·show qs p<=_;omega
 ·exact zN3 p (zBz f g b)
theorem zPT(p:zF)(xs xb:Int)(n:Nat)(b:Int)(o:zKY):∀k,qs (zCp p xs xb n b o k).pool<=qs o.pool+8*k
 | 0=>Nat.le_refl _
 | k+1=>by
  have h1:=zPT p xs xb n b o k;have h2:=zUL (zCp p xs xb n b o k).pool (zBo p xs xb n (1 - k) (zCp p xs xb n b o k).ps) (zBk p xs xb n (1 - k) (zCp p xs xb n b o k).pb) b;show qs (zVh _ _ _ _).pool<=_;omega
structure zEd where
 pool:zF
 rs:Int
 rb:Int
 old:List (Int×Int)
 code:Int
def zBh(c:Int):zEd:=⟨zEw 0,0,0,[],c⟩
open Classical in
noncomputable def zIX(p:zF)(xs xb:Int)(n:Nat)(b:Int)(o:zKY):zEd:=
 if (zCp p xs xb n b o 1).code≠0 then zBh (zCp p xs xb n b o 1).code
 else if (zCp p xs xb n b o 2).code≠0 then zBh (zCp p xs xb n b o 2).code
 else⟨(zCp p xs xb n b o 2).pool,(zCp p xs xb n b o 2).ps,(zCp p xs xb n b o 2).pb,zUN p xs xb n 3,0⟩
theorem zL0{p:zF}{xs xb:Int}{n:Nat}{b:Int}{o:zKY}{k:Nat}(hk:k<2)(h:∀j,j<=k->(zCp p xs xb n b o j).code=0)(hc:(zCp p xs xb n b o (k+1)).code≠0):zIX p xs xb n b o=zBh (zCp p xs xb n b o (k+1)).code:=by
 unfold zIX;rcases k with _ | _ | k
 ·rw[if_pos hc]
 ·rw[if_neg (fun hh=>hh (h 1 (by omega))),if_pos hc]
 ·omega
theorem zND{p:zF}{xs xb:Int}{n:Nat}{b:Int}{o:zKY}(h:∀j,j<=2->(zCp p xs xb n b o j).code=0):zIX p xs xb n b o=⟨(zCp p xs xb n b o 2).pool,(zCp p xs xb n b o 2).ps,(zCp p xs xb n b o 2).pb,zUN p xs xb n 3,0⟩:=by
 unfold zIX;rw[if_neg (fun hh=>hh (h 1 (by omega))),if_neg (fun hh=>hh (h 2 (by omega)))]
theorem zJy(v0 v1:Value)(lo hi:Nat)(p:zF)(xs xb:Int)(w:World)(h1:zCG w lo hi v0 v1 p) :
  Calls Tryz.prog 139 #[.agg #[v0,v1],.agg #[.int .i64 xs,.int .i64 xb]] w fun e w'=>zL (yf p xs xb) e/\Below w.heap.size w w':=by
 have Hp:=qC h1;obtain⟨a,c,a',c',rfl,rfl⟩:∃a c a' c',v0 = .slice a p.n c/\v1 = .slice a' p.hn c':=by
  obtain⟨⟨_,a,c,h1,_⟩,⟨_,a',c',h3,_⟩⟩:=h1;exact⟨a,c,a',c',h1,h3⟩
 clear h1;have eA:=zQ3 w (.slice a p.n c) (.slice a' p.hn c') (.int .i64 xs) (.int .i64 xb) 26 38;go_enter Tryz.func139,Tryz.ntmps139;go_wp2_with fail;generalize (w.alloc (.cells #[.slice a p.n c,.slice a' p.hn c'] 26)).alloc (.cells #[.int .i64 xs,.int .i64 xb] 38)=W at eA ⊢;obtain⟨hB,hX,cA,hz⟩:=eA;refine(zCt _ _ lo hi p _ (Hp.out.zeF cA)).mono ?_;rintro e w1 ⟨⟨t,rfl,ht⟩,aA⟩;have gA:=qC (hB.zeF aA);have iA:=qC (hX.zeF aA);have bA:=zA cA aA;clear hB hX cA aA;by_cases hR:zg p
 ·obtain rfl:t=true:=ht.2 hR;have HR:=qC hR;clear ht hR;obtain⟨⟨x0,x1⟩,⟨x2,x3⟩⟩:=gA.out;obtain⟨⟨y0,y1⟩,⟨y2,y3⟩⟩:=iA.out;go_wp2_with fail;refine(zIs _ _ lo hi p xs xb _ (Hp.out.zeF bA) HR.out).mono ?_;rintro e w2 ⟨⟨t2,rfl,fA⟩,dA⟩;have HT:=qC fA;have jA:=zA bA dA;clear fA dA x0 x1 x2 x3 y0 y1 y2 y3;go_wp2;go_ret;exact⟨⟨t2,rfl,HT.out.trans ((zKQ HR.out).trans ⟨fun h=>⟨HR.out,h⟩,fun h=>h.2⟩)⟩,jA⟩
 ·obtain rfl:t=false:=qj ht hR;have HR:=qC hR;clear ht hR;go_wp2;go_ret;exact⟨zL.no fun h=>HR.out h.1,bA⟩
def zFL(n:Int):Prop:=0<=n/\n<=63
open Classical in
noncomputable def zHP(p:zF)(xs xb page b:Int):zEd:=
 if yf p xs xb/\zBQ xb b then(if zFL page then(if Nil (zFc p xs xb page.toNat) (zFu p xs xb page.toNat)then zBh 4 else zIX p xs xb page.toNat b ⟨p,0,0,0⟩)else zBh 8)else zBh 1
theorem zPs{p:zF}{xs xb aA b:Int}(h:¬(yf p xs xb/\zBQ xb b)):zHP p xs xb aA b=zBh 1:=if_neg h
theorem zUf{p:zF}{xs xb aA b:Int}(h:yf p xs xb/\zBQ xb b)(h2:¬zFL aA):zHP p xs xb aA b=zBh 8:=(if_pos h).trans (if_neg h2)
theorem zXf{p:zF}{xs xb aA b:Int}(h:yf p xs xb/\zBQ xb b)(h2:zFL aA)(h3:Nil (zFc p xs xb aA.toNat) (zFu p xs xb aA.toNat)):zHP p xs xb aA b=zBh 4:=((if_pos h).trans (if_pos h2)).trans (if_pos h3)
theorem zS6{p:zF}{xs xb aA b:Int}(h:yf p xs xb/\zBQ xb b)(h2:zFL aA)(h3:¬Nil (zFc p xs xb aA.toNat) (zFu p xs xb aA.toNat)):zHP p xs xb aA b=zIX p xs xb aA.toNat b ⟨p,0,0,0⟩:=((if_pos h).trans (if_pos h2)).trans (if_neg h3)
def zBH(b:Int)(d:ByteArray):zN:={birth:=b,kn:=0,ks:=fun _=>0,kb:=fun _=>0,data:=d}
open Classical in
noncomputable def zDN(p:zF)(xs xb page:Int)(d:ByteArray)(b:Int):zEd:=
 if 8000<d.size then zBh 2 else if yf p xs xb/\zBQ xb b then(if zFL page/\d.size=16 then(if (zCv p (zBH b d)).code=0 then zIX p xs xb page.toNat b ⟨(zCv p (zBH b d)).pool,(zCv p (zBH b d)).ps,(zCv p (zBH b d)).pb,0⟩else zBh (zCv p (zBH b d)).code)else zBh 8)else zBh 1
theorem zN8{p:zF}{xs xb aA b:Int}{d:ByteArray}(h:8000<d.size):zDN p xs xb aA d b=zBh 2:=if_pos h
theorem zN7{p:zF}{xs xb aA b:Int}{d:ByteArray}(h0:¬8000<d.size)(h:¬(yf p xs xb/\zBQ xb b)):zDN p xs xb aA d b=zBh 1:=(if_neg h0).trans (if_neg h)
theorem zLh{p:zF}{xs xb aA b:Int}{d:ByteArray}(h0:¬8000<d.size)(h:yf p xs xb/\zBQ xb b)(h2:¬(zFL aA/\d.size=16)):zDN p xs xb aA d b=zBh 8:=((if_neg h0).trans (if_pos h)).trans (if_neg h2)
theorem zUj{p:zF}{xs xb aA b:Int}{d:ByteArray}(h0:¬8000<d.size)(h:yf p xs xb/\zBQ xb b)(h2:zFL aA/\d.size=16)(h3:(zCv p (zBH b d)).code≠0):zDN p xs xb aA d b=zBh (zCv p (zBH b d)).code:=(((if_neg h0).trans (if_pos h)).trans (if_pos h2)).trans (if_neg h3)
theorem zXg{p:zF}{xs xb aA b:Int}{d:ByteArray}(h0:¬8000<d.size)(h:yf p xs xb/\zBQ xb b)(h2:zFL aA/\d.size=16)(h3:(zCv p (zBH b d)).code=0):zDN p xs xb aA d b=zIX p xs xb aA.toNat b ⟨(zCv p (zBH b d)).pool,(zCv p (zBH b d)).ps,(zCv p (zBH b d)).pb,0⟩:=(((if_neg h0).trans (if_pos h)).trans (if_pos h2)).trans (if_pos h3)
theorem zNQ{p:zF}{xs xb:Int}{n:Nat}(hT:yf p xs xb)(hn:n<64):∀{L:Nat},L<3->¬Nil (zIY p xs xb n L) (zLq p xs xb n L)->qp p (zIY p xs xb n L) (zLq p xs xb n L)/\zLq p xs xb n L<=xb
 | 0,_,hN=>⟨(hT.2.resolve_left hN).1.1,Int.le_refl _⟩
 | L+1,hL,hN=>by
  have aA:¬Nil (zIY p xs xb n L) (zLq p xs xb n L):=fun h=>hN (zbK h (by omega))
  obtain⟨h1,h2⟩:=zNQ hT hn (L:=L) (by omega) aA;rw[(zKB p xs xb n (show L<2 by omega)).1,(zKB p xs xb n (show L<2 by omega)).2]at hN ⊢;unfold zbB at hN ⊢;rw[if_neg aA,if_neg aA]at hN ⊢;obtain⟨h3,h4⟩:=zC2 (zAg hT.1 h1) (zZs (n:=n) (L:=L) hn) hN;refine⟨h3,?_⟩;have h5:=h1.2.2.2;have bA:zj (p.s (zIY p xs xb n L).toNat) (plc n L*2+1)<=(p.s (zIY p xs xb n L).toNat).birth:=h4;omega
theorem zFV{p q:zF}{xs xb x y b:Int}{n L:Nat}(hT:yf p xs xb)(hn:n<64)(hL:L<2)(hB:zBQ xb b)(bA:∀s t,qp p s t->qp q s t)(hx:Nil x y\/(qp q x y/\y<=b)) :
  zDp q (zBz (zBo p xs xb n L x) (zBk p xs xb n L y) b):=by
 refine⟨hB.1,Or.inr ⟨rfl,by simp[zBz,Go.ByteArray.toList_eq],fun i hi=>?_⟩⟩;have aA:i<8:=hi;show zUk q b (zBo p xs xb n L x i) (zBk p xs xb n L y i);unfold zBo zBk;by_cases e:i=plc n L
 ·rw[if_pos e,if_pos e];rcases hx with h | h
  ·exact Or.inl h
  ·exact Or.inr h
 ·rw[if_neg e,if_neg e];unfold zFY zFX;by_cases hN:Nil (zIY p xs xb n L) (zLq p xs xb n L)
  ·rw[if_pos hN,if_pos hN];exact Or.inl ⟨rfl,rfl⟩
  ·rw[if_neg hN,if_neg hN];obtain⟨h1,h2⟩:=zNQ hT hn (L:=L) (by omega) hN;by_cases hk:Nil (qJ (p.s (zIY p xs xb n L).toNat) i) (yZ (p.s (zIY p xs xb n L).toNat) i)
   ·exact Or.inl hk
   ·obtain⟨h3,h4⟩:=zC2 (zAg hT.1 h1) aA hk;refine Or.inr ⟨bA _ _ h3,?_⟩;have h5:=h1.2.2.2;have h6:=hB.2;omega
theorem zGb{f:Nat->zN}:∀{n:Nat},roomN f n=0->∀j,j<n->¬zAO (f j)
 | 0,_,j,hj=>absurd hj (Nat.not_lt_zero _)
 | n+1,h,j,hj=>by
  by_cases hf:zAO (f n)
  ·rw[zEP hf]at h;omega
  ·rw[zEm hf]at h;by_cases e:j=n
   ·rw[e];exact hf
   ·exact zGb h j (by omega)
theorem zEQ{f:Nat->zN}:∀{n:Nat},0<roomN f n->∃i,zBf n f i
 | 0,h=>absurd h (Nat.lt_irrefl _)
 | n+1,h=>by
  by_cases h0:0<roomN f n
  ·obtain⟨i,h1,h2,h3⟩:=zEQ h0;exact⟨i,by omega,h2,h3⟩
  ·by_cases hf:zAO (f n)
   ·exact⟨n,by omega,hf,zGb (by omega)⟩
   ·rw[zEm hf]at h;exact absurd h h0
theorem zIN{p:zF}{i:Nat}{s:zN}(hi:zBf p.n p.s i)(hs:zDp p s):roomN (zBt p i s).s p.n+1=roomN p.s p.n:=by
 have h:=zSg (p:=p) (i:=i) (s:=s) hi.2.1 (zAo hs) p.n;rw[if_pos hi.1]at h;exact h
theorem zEF{p:zF}{b:Int}{d:ByteArray}(hb:zBW b)(hd:d.size=16):zDp p (zBH b d):=⟨hb,Or.inl ⟨rfl,hd⟩⟩
theorem zJH{p:zF}{i:Nat}{s:zN}(hi:zBf p.n p.s i)(hs:1<=s.birth):qp (zBt p i s) (i:Int) s.birth:=
 ⟨hs,by omega,by have:=hi.1;show(i:Int)<(p.n:Int);omega,by rw[Int.toNat_natCast,zNs]⟩
theorem zNY{p:zF}{xs xb x b:Int}{n L:Nat}(hn:n<64)(hb:1<=b):¬zEq (zBo p xs xb n L x) (zBk p xs xb n L b):=fun h=>by
 have:=(h (plc n L) (zZs hn)).2;unfold zBk at this;rw[if_pos rfl]at this;omega
def zB4(p:zF)(b:Int)(d:ByteArray)(i0:Nat):zF:=zBt p i0 (zBH b d)
def zGW(p:zF)(xs xb:Int)(n:Nat)(b:Int)(d:ByteArray)(i0 i1:Nat):zF:=zBt (zB4 p b d i0) i1 (zBz (zBo p xs xb n 1 (i0:Int)) (zBk p xs xb n 1 b) b)
def zZ2(p:zF)(xs xb:Int)(n:Nat)(b:Int)(d:ByteArray)(i0 i1 i2:Nat):zF:=zBt (zGW p xs xb n b d i0 i1) i2 (zBz (zBo p xs xb n 0 (i1:Int)) (zBk p xs xb n 0 b) b)
theorem zd2{p:zF}{xs xb b:Int}{d:ByteArray}{i0:Nat}(hT:yf p xs xb)(hB:zBQ xb b)(hd:d.size=16)(h0:zBf p.n p.s i0):zCv p (zBH b d)=⟨zB4 p b d i0,(i0:Int),b,0⟩:=
 zKO ⟨hT.1,zAo (zEF (p:=p) hB.1 hd),zEF hB.1 hd⟩ h0
theorem zJI{p:zF}{xs xb b:Int}{d:ByteArray}{i0:Nat}(hT:yf p xs xb)(hB:zBQ xb b)(hd:d.size=16)(h0:zBf p.n p.s i0):zg (zB4 p b d i0):=zK3 hT.1 h0 (zEF hB.1 hd)
theorem zFZ{p:zF}{xs xb b:Int}{n:Nat}{d:ByteArray}{i0:Nat}(hT:yf p xs xb)(hn:n<64)(hB:zBQ xb b)(h0:zBf p.n p.s i0):zDp (zB4 p b d i0) (zBz (zBo p xs xb n 1 (i0:Int)) (zBk p xs xb n 1 b) b):=
 zFV hT hn (by omega) hB (fun s t h=>zFe h0.2.1 h) (Or.inr ⟨zJH (s:=zBH b d) h0 hB.1.1,Int.le_refl _⟩)
theorem zKP{p:zF}{xs xb b:Int}{n:Nat}{d:ByteArray}{i0 i1:Nat}(hT:yf p xs xb)(hn:n<64)(hB:zBQ xb b)(h0:zBf p.n p.s i0)(h1:zBf p.n (zB4 p b d i0).s i1):zDp (zGW p xs xb n b d i0 i1) (zBz (zBo p xs xb n 0 (i1:Int)) (zBk p xs xb n 0 b) b):=
 zFV hT hn (by omega) hB (fun s t h=>zFe (p:=zB4 p b d i0) h1.2.1 (zFe h0.2.1 h)) (Or.inr ⟨zJH (p:=zB4 p b d i0) (s:=zBz (zBo p xs xb n 1 (i0:Int)) (zBk p xs xb n 1 b) b) h1 hB.1.1,Int.le_refl _⟩)
theorem zda{p:zF}{xs xb b:Int}{n:Nat}{d:ByteArray}{i0:Nat}(hn:n<64)(hB:zBQ xb b):zCp p xs xb n b ⟨zB4 p b d i0,(i0:Int),b,0⟩ 1=zCv (zB4 p b d i0) (zBz (zBo p xs xb n 1 (i0:Int)) (zBk p xs xb n 1 b) b):=
 if_neg (zNY hn hB.1.1)
theorem zQe{p:zF}{xs xb b:Int}{n:Nat}{d:ByteArray}{i0 i1:Nat}(hT:yf p xs xb)(hn:n<64)(hB:zBQ xb b)(hd:d.size=16)(h0:zBf p.n p.s i0)(h1:zBf p.n (zB4 p b d i0).s i1):zCp p xs xb n b ⟨zB4 p b d i0,(i0:Int),b,0⟩ 1=⟨zGW p xs xb n b d i0 i1,(i1:Int),b,0⟩:=by
 rw[zda hn hB];exact zKO ⟨zJI hT hB hd h0,zAo (zFZ (d:=d) hT hn hB h0),zFZ hT hn hB h0⟩ h1
theorem zdb{p:zF}{xs xb b:Int}{n:Nat}{d:ByteArray}{i0 i1:Nat}(hT:yf p xs xb)(hn:n<64)(hB:zBQ xb b)(hd:d.size=16)(h0:zBf p.n p.s i0)(h1:zBf p.n (zB4 p b d i0).s i1):zCp p xs xb n b ⟨zB4 p b d i0,(i0:Int),b,0⟩ 2=zCv (zGW p xs xb n b d i0 i1) (zBz (zBo p xs xb n 0 (i1:Int)) (zBk p xs xb n 0 b) b):=by
 show zSX p xs xb n b (zCp p xs xb n b ⟨zB4 p b d i0,(i0:Int),b,0⟩ 1) 0=_;rw[zQe hT hn hB hd h0 h1];exact if_neg (zNY hn hB.1.1)
theorem zVs{n:Nat}(hn:n<64):zFL (n:Int):=⟨by omega,by omega⟩
theorem zS9{p:zF}{xs xb b:Int}{n:Nat}{d:ByteArray}{i0:Nat}(hT:yf p xs xb)(hn:n<64)(hB:zBQ xb b)(hd:d.size=16)(h0:zBf p.n p.s i0):zDN p xs xb (n:Int) d b=zIX p xs xb n b ⟨zB4 p b d i0,(i0:Int),b,0⟩:=by
 have t0:=zd2 hT hB hd h0;rw[zXg (by omega) ⟨hT,hB⟩ ⟨zVs hn,hd⟩ (by rw[t0]),t0];rfl
theorem zNW{p:zF}{xs xb b:Int}{n:Nat}{d:ByteArray}{i0 i1:Nat}(hT:yf p xs xb)(hn:n<64)(hB:zBQ xb b)(hd:d.size=16)(h0:zBf p.n p.s i0)(h1:zBf p.n (zB4 p b d i0).s i1):zg (zGW p xs xb n b d i0 i1):=
 zK3 (zJI hT hB hd h0) h1 (zFZ hT hn hB h0)
theorem zaX{p:zF}{xs xb b:Int}{n:Nat}{d:ByteArray}{i0 i1 i2:Nat}(hT:yf p xs xb)(hn:n<64)(hB:zBQ xb b)(hd:d.size=16)(h0:zBf p.n p.s i0)(h1:zBf p.n (zB4 p b d i0).s i1)(h2:zBf p.n (zGW p xs xb n b d i0 i1).s i2) :
  zDN p xs xb (n:Int) d b=⟨zZ2 p xs xb n b d i0 i1 i2,(i2:Int),b,zUN p xs xb n 3,0⟩:=by
 rw[zS9 hT hn hB hd h0];have e1:=zQe hT hn hB hd h0 h1;have e2:zCp p xs xb n b ⟨zB4 p b d i0,(i0:Int),b,0⟩ 2=⟨zZ2 p xs xb n b d i0 i1 i2,(i2:Int),b,0⟩:=by
  rw[zdb hT hn hB hd h0 h1];exact zKO ⟨zNW hT hn hB hd h0 h1,zAo (zKP (d:=d) hT hn hB h0 h1),zKP hT hn hB h0 h1⟩ h2
 rw[zND (fun j hj=>by
  rcases j with _ | _ | _ | j
  ·rfl
  ·rw[e1]
  ·rw[e2]
  ·omega),e2]
theorem zUi{p:zF}{xs xb b:Int}{n:Nat}{d:ByteArray}(hT:yf p xs xb)(hn:n<64)(hB:zBQ xb b)(hd:d.size=16)(hr:roomN p.s p.n<3):zDN p xs xb (n:Int) d b=zBh 6:=by
 by_cases r0:roomN p.s p.n=0
 ·have t0:=zGf (p:=p) (s:=zBH b d) ⟨hT.1,zAo (zEF (p:=p) hB.1 hd),zEF hB.1 hd⟩ (zGb r0);rw[zUj (by omega) ⟨hT,hB⟩ ⟨zVs hn,hd⟩ (by rw[t0];decide),t0]
 ·obtain⟨i0,h0⟩:=zEQ (f:=p.s) (n:=p.n) (by omega);have q0:=zIN (s:=zBH b d) h0 (zEF hB.1 hd);rw[zS9 hT hn hB hd h0];by_cases r1:roomN (zB4 p b d i0).s p.n=0
  ·have t1:=zGf (p:=zB4 p b d i0) ⟨zJI hT hB hd h0,zAo (zFZ (n:=n) (d:=d) hT hn hB h0),zFZ hT hn hB h0⟩ (zGb r1);have e1:=zda (p:=p) (xs:=xs) (d:=d) (i0:=i0) hn hB;rw[t1]at e1;rw[zL0 (k:=0) (by omega) (fun j hj=>by cases (show j=0 from by omega);rfl) (by rw[e1];decide),e1]
  ·obtain⟨i1,h1⟩:=zEQ (f:=(zB4 p b d i0).s) (n:=p.n) (by omega);have q1:roomN (zGW p xs xb n b d i0 i1).s p.n+1=roomN (zB4 p b d i0).s p.n:=zIN (p:=zB4 p b d i0) h1 (zFZ hT hn hB h0);have aA:roomN (zB4 p b d i0).s p.n+1=roomN p.s p.n:=q0;have r2:roomN (zGW p xs xb n b d i0 i1).s p.n=0:=(by omega);have t2:=zGf (p:=zGW p xs xb n b d i0 i1) ⟨zNW hT hn hB hd h0 h1,zAo (zKP (d:=d) hT hn hB h0 h1),zKP hT hn hB h0 h1⟩ (zGb r2);have e1:=zQe hT hn hB hd h0 h1;have e2:=zdb hT hn hB hd h0 h1;rw[t2]at e2;rw[zL0 (k:=1) (by omega) (fun j hj=>by
    rcases j with _ | _ | j
    ·rfl
    ·rw[e1]
    ·omega) (by rw[e2];decide),e2]
def zB6(w:World)(S:Nat->Prop)(v0 v1:Value)(p:zF):Prop:=
 ∃(bs hb:Nat) (kb:Nat->Nat) (kv:Nat->Value),zCL w bs kb kv v0 p.n p.s/\zGH kb p.n p.s/\zDU w hb v1 p.hn p.h/\(0<p.hn->¬zEs bs kb p.n p.s hb)/\
  ∀k,zEs bs kb p.n p.s k\/(0<p.hn/\k=hb)->S k
theorem zAM.isIn{w:World}{lo hi:Nat}{S:Nat->Prop}{v0 v1:Value}{p:zF}(h:zAM w lo hi v0 v1 p)(hS:∀k,lo<=k->k<hi->S k):zB6 w S v0 v1 p:=by
 obtain⟨bs,hb,kb,kv,h1,h2,h3,h4,h5⟩:=h;exact⟨bs,hb,kb,kv,h1,h2,h3,h4,fun k hk=>hS k (h5 k hk).1 (h5 k hk).2⟩
theorem zB6.own{w:World}{lo hi:Nat}{S:Nat->Prop}{v0 v1:Value}{p:zF}(h:zB6 w S v0 v1 p)(hS:∀k,S k->lo<=k/\k<hi):zAM w lo hi v0 v1 p:=by
 obtain⟨bs,hb,kb,kv,h1,h2,h3,h4,h5⟩:=h;exact⟨bs,hb,kb,kv,h1,h2,h3,h4,fun k hk=>hS k (h5 k hk)⟩
theorem zB6.mono{w:World}{S T:Nat->Prop}{v0 v1:Value}{p:zF}(h:zB6 w S v0 v1 p)(hS:∀k,S k->T k):zB6 w T v0 v1 p:=by
 obtain⟨bs,hb,kb,kv,h1,h2,h3,h4,h5⟩:=h;exact⟨bs,hb,kb,kv,h1,h2,h3,h4,fun k hk=>hS k (h5 k hk)⟩
theorem zB6.zeF{w w':World}{S:Nat->Prop}{v0 v1:Value}{p:zF}(h:zB6 w S v0 v1 p)(t:Below w.heap.size w w'):zB6 w' S v0 v1 p:=by
 obtain⟨bs,hb,kb,kv,h1,h2,h3,h4,h5⟩:=h;exact⟨bs,hb,kb,kv,h1.zeF t,h2,h3.zeF t,h4,h5⟩
theorem zB6.zeG{S T:Nat->Prop}{w w':World}{v0 v1:Value}{p:zF}(h:zB6 w S v0 v1 p)(t:zJ T w w')(hs:∀k,S k->¬T k):zB6 w' S v0 v1 p:=by
 obtain⟨bs,hb,kb,kv,h1,h2,h3,h4,h5⟩:=h;have out:∀k,zEs bs kb p.n p.s k\/(0<p.hn/\k=hb)->¬T k:=fun k hk=>hs k (h5 k hk)
 exact⟨bs,hb,kb,kv,h1.zeG t (fun h0=>out _ (Or.inl (Or.inl ⟨h0,rfl⟩))) (fun i hi h=>out _ (Or.inl (Or.inr ⟨i,hi,h,rfl⟩))),h2,h3.zeG t (fun h0=>out _ (Or.inr ⟨h0,rfl⟩)),h4,h5⟩
theorem zB6.at{w:World}{S:Nat->Prop}{lo hi:Nat}{v0 v1:Value}{p:zF}(h:zB6 w S v0 v1 p)(hS:∀k,S k->lo<=k/\k<hi):zCG w lo hi v0 v1 p:=(h.own hS).at
theorem zS5{p q:zF}{xs xb x y b:Int}{n:Nat}(h1:zCp p xs xb n b ⟨p,0,0,0⟩ 1=⟨q,x,y,0⟩)(hN:zEq (zBo p xs xb n 0 x) (zBk p xs xb n 0 y)):zIX p xs xb n b ⟨p,0,0,0⟩=⟨q,0,0,zUN p xs xb n 3,0⟩:=by
 have e2:zCp p xs xb n b ⟨p,0,0,0⟩ 2=⟨q,0,0,0⟩:=by
  show zSX p xs xb n b (zCp p xs xb n b ⟨p,0,0,0⟩ 1) 0=_;rw[h1];exact if_pos hN
 rw[zND (fun j hj=>by
  rcases j with _ | _ | _ | j
  ·rfl
  ·rw[h1]
  ·rw[e2]
  ·omega),e2]
theorem zS7{p q:zF}{xs xb x y b:Int}{n i:Nat}(h1:zCp p xs xb n b ⟨p,0,0,0⟩ 1=⟨q,x,y,0⟩)(hN:¬zEq (zBo p xs xb n 0 x) (zBk p xs xb n 0 y))(hR:zg q)(hF:zDp q (zBz (zBo p xs xb n 0 x) (zBk p xs xb n 0 y) b))(hi:zBf q.n q.s i) :
  zIX p xs xb n b ⟨p,0,0,0⟩=⟨zBt q i (zBz (zBo p xs xb n 0 x) (zBk p xs xb n 0 y) b),(i:Int),b,zUN p xs xb n 3,0⟩:=by
 have e2:zCp p xs xb n b ⟨p,0,0,0⟩ 2=⟨zBt q i (zBz (zBo p xs xb n 0 x) (zBk p xs xb n 0 y) b),(i:Int),b,0⟩:=by
  show zSX p xs xb n b (zCp p xs xb n b ⟨p,0,0,0⟩ 1) 0=_;rw[h1];exact(if_neg hN).trans (zKO ⟨hR,zAo hF,hF⟩ hi)
 rw[zND (fun j hj=>by
  rcases j with _ | _ | _ | j
  ·rfl
  ·rw[h1]
  ·rw[e2]
  ·omega),e2]
theorem zPt{p q:zF}{xs xb x y b:Int}{n:Nat}(h1:zCp p xs xb n b ⟨p,0,0,0⟩ 1=⟨q,x,y,0⟩)(hN:¬zEq (zBo p xs xb n 0 x) (zBk p xs xb n 0 y))(hR:zg q)(hF:zDp q (zBz (zBo p xs xb n 0 x) (zBk p xs xb n 0 y) b))(aA:∀j,j<q.n->¬zAO (q.s j)) :
  zIX p xs xb n b ⟨p,0,0,0⟩=zBh 6:=by
 have e2:zCp p xs xb n b ⟨p,0,0,0⟩ 2=⟨zEw 0,0,0,6⟩:=by
  show zSX p xs xb n b (zCp p xs xb n b ⟨p,0,0,0⟩ 1) 0=_;rw[h1];exact(if_neg hN).trans (zGf ⟨hR,zAo hF,hF⟩ aA)
 rw[zL0 (k:=1) (by omega) (fun j hj=>by
    rcases j with _ | _ | j
    ·rfl
    ·rw[h1]
    ·omega) (by rw[e2];decide),e2]
theorem zeB{p:zF}{xs xb b:Int}{n:Nat}(hN:zEq (zBo p xs xb n 1 0) (zBk p xs xb n 1 0)):zCp p xs xb n b ⟨p,0,0,0⟩ 1=⟨p,0,0,0⟩:=if_pos hN
theorem zeC{p:zF}{xs xb b:Int}{n i:Nat}(hT:yf p xs xb)(hn:n<64)(hB:zBQ xb b)(hN:¬zEq (zBo p xs xb n 1 0) (zBk p xs xb n 1 0))(hi:zBf p.n p.s i) :
  zCp p xs xb n b ⟨p,0,0,0⟩ 1=⟨zBt p i (zBz (zBo p xs xb n 1 0) (zBk p xs xb n 1 0) b),(i:Int),b,0⟩:=by
 have hF:zDp p (zBz (zBo p xs xb n 1 0) (zBk p xs xb n 1 0) b):=zFV hT hn (by omega) hB (fun s t h=>h) (Or.inl ⟨rfl,rfl⟩);exact(if_neg hN).trans (zKO ⟨hT.1,zAo hF,hF⟩ hi)
theorem zYn{p:zF}{xs xb b:Int}{n:Nat}(hT:yf p xs xb)(hn:n<64)(hB:zBQ xb b)(hN:¬zEq (zBo p xs xb n 1 0) (zBk p xs xb n 1 0))(aA:∀j,j<p.n->¬zAO (p.s j)):zIX p xs xb n b ⟨p,0,0,0⟩=zBh 6:=by
 have hF:zDp p (zBz (zBo p xs xb n 1 0) (zBk p xs xb n 1 0) b):=zFV hT hn (by omega) hB (fun s t h=>h) (Or.inl ⟨rfl,rfl⟩);have e1:zCp p xs xb n b ⟨p,0,0,0⟩ 1=⟨zEw 0,0,0,6⟩:=(if_neg hN).trans (zGf ⟨hT.1,zAo hF,hF⟩ aA);rw[zL0 (k:=0) (by omega) (fun j hj=>by cases (show j=0 from by omega);rfl) (by rw[e1];decide),e1]
theorem zaN{f g:Nat->Int}:(∃i,i<8/\¬Nil (f i) (g i))↔¬zEq f g:=by
 constructor
 ·rintro⟨i,hi,h⟩ hA;exact h (hA i hi)
 ·intro h;apply Classical.byContradiction;intro hx;exact h fun i hi=>Classical.byContradiction fun hn=>hx ⟨i,hi,hn⟩
end Go.Proofs.YtjganmlaooofoaaGreatDoor
