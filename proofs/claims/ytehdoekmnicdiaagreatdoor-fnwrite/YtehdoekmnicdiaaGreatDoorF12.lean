/- A part of the proof. -/
import Derived.Test.YtehdoekmnicdiaaGreatDoorF11
import Derived.Deep.RegionLawGrows
set_option linter.unusedVariables false
set_option maxRecDepth 20000
set_option maxHeartbeats 4000000
namespace Go.Proofs.YtehdoekmnicdiaaGreatDoor
open Go.RowKit
variable{w:World}{b n:Nat}{f:Nat->AG}{cv:Nat->Value}
theorem zFy{off:Nat}(h:∀i,i<n->w.cell? ⟨b,off+i*3,none⟩=some (.int .i64 (f i).birth)/\w.cell? ⟨b,off+i*3+1,none⟩=some (cv i)/\w.cell? ⟨b,off+i*3+2,none⟩=some (.string (f i).data)) :
 ∀j u,(sc f cv n)[j]?=some u->w.cell? ⟨b,off+j,none⟩=some u:=by
 intro j u c;have g:j<n*3:=by
  have:=(List.getElem?_eq_some_iff.1 c).1
  rwa [Gz]at this
 obtain⟨c0,c1,d⟩:=h (j / 3) (by omega);have e:=IU f cv n (j / 3) (j % 3) (by omega) (by omega);rw[show j / 3*3+j % 3=j by omega,c]at e;rcases(by omega:j % 3=0\/j % 3=1\/j % 3=2)with a | a | a
 ·rw[a]at e;simp at e;subst e;rw[show off+j=off+j / 3*3 by omega];exact c0
 ·rw[a]at e;simp at e;subst e;rw[show off+j=off+j / 3*3+1 by omega];exact c1
 ·rw[a]at e;simp at e;subst e;rw[show off+j=off+j / 3*3+2 by omega];exact d
variable{lo hi c:Nat}{a:Option Addr}
theorem CD.values(h:CD w lo hi (.slice a n c) n f) :
 ∃cv:Nat->Value,(∀i,i<n->CQ w lo hi (.int .i64 (f i).birth) (cv i) (.string (f i).data) (f i))/\
  (0<n->∃b off,a=some ⟨b,off,none⟩/\lo<=b/\b<hi/\∀j u,(sc f cv n)[j]?=some u->w.cell? ⟨b,off+j,none⟩=some u):=by
 obtain⟨_,t,c0,o,_,g⟩:=h;simp only[Value.slice.injEq,true_and]at o;obtain⟨rfl,rfl⟩:=o;by_cases hn:0<n
 ·obtain⟨b,off,p,e,k,q⟩:=g hn;have l:∀i,∃x,i<n->(w.cell? ⟨b,off+i*3,none⟩=some (.int .i64 (f i).birth)/\w.cell? ⟨b,off+i*3+1,none⟩=some x/\w.cell? ⟨b,off+i*3+2,none⟩=some (.string (f i).data))/\CQ w lo hi (.int .i64 (f i).birth) x (.string (f i).data) (f i):=fun i=>by
   by_cases hi:i<n
   ·obtain⟨v,v1,y,r,q1,s,hs⟩:=q i hi;have m:=hs;obtain⟨rfl,_,rfl,_⟩:=m;exact⟨v1,fun _=>⟨⟨r,q1,s⟩,hs⟩⟩
   ·exact⟨.slice none 0 0,fun h=>absurd h hi⟩
  obtain⟨cv,d⟩:=Classical.axiomOfChoice l;exact⟨cv,fun i hi=>(d i hi).2,fun _=>⟨b,off,p,e,k,zFy fun i hi=>(d i hi).1⟩⟩
 ·exact⟨fun _=>.slice none 0 0,fun i hi=>absurd hi (by omega),fun h=>absurd h hn⟩
variable{s:AG}
theorem CQ.form{v0 v1 v2:Value}(h:CQ w lo hi v0 v1 v2 s):∃a kc,v1 = .slice a s.kn kc:=by
 obtain⟨_,⟨_,a,kc,h,_⟩,_⟩:=h;exact⟨a,kc,h⟩
structure GM (wr:World) (bs n k:Nat) (f:Nat->AG) (kb:Nat->Nat) (kv cv:Nat->Value):Prop where
 cells:∀j,j<n->AN wr bs (j*3) (.int .i64 (f j).birth)/\AN wr bs (j*3+1) (if j<k then kv j else cv j)/\AN wr bs (j*3+2) (.string (f j).data)
 kids:∀j,j<k->Ca wr (kb j) (kv j) (f j).kn (f j).ks (f j).kb
 C8:∀j,j<k->0<(f j).kn->bs<kb j/\kb j<wr.heap.size
 C7:MA kb k f
variable{wr w':World}{bs k:Nat}{kb:Nat->Nat}{kv:Nat->Value}
theorem GM.A0(h:GM wr bs n k f kb kv cv)(t:Below wr.heap.size wr w'):GM w' bs n k f kb kv cv:=
 ⟨fun j a=>⟨(h.cells j a).1.A0 t,(h.cells j a).2.1.A0 t,(h.cells j a).2.2.A0 t⟩,fun j a=>(h.kids j a).A0 t,fun j a b=>by have:=h.C8 j a b;have:=t.size;omega,h.C7⟩
variable{v:Value}
theorem GM.next{w1:World}(h:GM wr bs n k f kb kv cv)(y:k<n)(u:bs<wr.heap.size)(t:Below wr.heap.size wr w1)
 (w:Ca w1 b v (f k).kn (f k).ks (f k).kb) (l:0<(f k).kn->wr.heap.size<=b/\b<w1.heap.size) :
 GM (((w1.setCell ⟨bs,k*3,none⟩ (.int .i64 (f k).birth)).setCell ⟨bs,k*3+1,none⟩ v).setCell ⟨bs,k*3+2,none⟩ (.string (f k).data)) bs n (k+1) f (fun j=>if j=k then b else kb j) (fun j=>if j=k then v else kv j) cv:=by
 have g:=h.A0 t;refine⟨fun j m=>?_,fun j m=>?_,fun j m c=>?_,fun i j hi m q o p=>?_⟩
 ·obtain⟨c0,c1,r⟩:=g.cells j m;by_cases e:j=k
  ·subst e;rw[if_pos (by omega),if_pos rfl];exact⟨((c0.set _).other _ (Or.inr (by omega))).other _ (Or.inr (by omega)),((c1.other _ (Or.inr (by omega))).set _).other _ (Or.inr (by omega)),((r.other _ (Or.inr (by omega))).other _ (Or.inr (by omega))).set _⟩
  ·rw[if_neg e];have s:(if j<k+1 then kv j else cv j)=if j<k then kv j else cv j:=by
    by_cases a:j<k
    ·rw[if_pos a,if_pos (by omega)]
    ·rw[if_neg a,if_neg (by omega)]
   rw[s];exact⟨((c0.other _ (Or.inr (by omega))).other _ (Or.inr (by omega))).other _ (Or.inr (by omega)),((c1.other _ (Or.inr (by omega))).other _ (Or.inr (by omega))).other _ (Or.inr (by omega)),((r.other _ (Or.inr (by omega))).other _ (Or.inr (by omega))).other _ (Or.inr (by omega))⟩
 ·by_cases e:j=k
  ·subst e;simp only[if_true];refine((w.AD (AE.put _ _ _ _) ?_).AD (AE.put _ _ _ _) ?_).AD (AE.put _ _ _ _) ?_
   all_goals exact fun c x=>by have:=l c;omega
  ·simp only[if_neg e];refine(((g.kids j (by omega)).AD (AE.put _ _ _ _) ?_).AD (AE.put _ _ _ _) ?_).AD (AE.put _ _ _ _) ?_
   all_goals exact fun c x=>by have:=g.C8 j (by omega) c;omega
 ·simp only[World.size_setCell];by_cases e:j=k
  ·subst e;rw[if_pos rfl];have:=l c;omega
  ·rw[if_neg e];have:=g.C8 j (by omega) c;omega
 ·show(if i=k then b else kb i)≠(if j=k then b else kb j);by_cases d:i=k
  ·by_cases a:j=k
   ·omega
   ·rw[if_pos d,if_neg a];subst d;have:=l o;have:=h.C8 j (by omega) p;omega
  ·by_cases a:j=k
   ·rw[if_neg d,if_pos a];subst a;have:=l p;have:=h.C8 i (by omega) o;omega
   ·rw[if_neg d,if_neg a];exact h.C7 i j (by omega) (by omega) q o p
theorem GM.own(h:GM wr bs n n f kb kv cv)(m:n<=maxLen)(g:0<n->a=some ⟨bs,0,none⟩)(k:n<=c)(hs:∀j,j<n->(f j).data.size<=maxLen):F9 wr bs kb kv (.slice a n c) n f:=
 ⟨m,a,c,rfl,k,fun d=>⟨0,g d,fun i hi=>by
  obtain⟨c0,c1,b⟩:=h.cells i hi;rw[if_pos hi]at c1;rw[Nat.zero_add];exact⟨c0,c1,b,h.kids i hi,hs i hi,fun l e=>by have:=h.C8 i hi l;omega⟩⟩⟩
theorem ZX(v:Value)(n lo hi:Nat)(f:Nat->AG)(w:World)(N:CD w lo hi v n f)(hn:n<=1048576)(S:∀j,j<n->(f j).kn<=1048576) :
 Calls Tryz.prog 159 #[v] w fun e w'=>∃V y H kv,e = .returned V/\F9 w' y H kv V n f/\MA H n f/\(∀k,FU y H n f k->w.heap.size<=k/\k<w'.heap.size)/\Below w.heap.size w w':=by
 have Hm:=AR N.1;have q1:=N;obtain⟨_,a,c,rfl,_,_⟩:=N;obtain⟨cv,d,D⟩:=q1.values;have E:=AR d;have Hk:=AR S;have x:0<n->∃b off,a=some ⟨b,off,none⟩/\∀j u,(sc f cv n)[j]?=some u->w.cell? ⟨b,off+j,none⟩=some u:=fun p=>by
  obtain⟨b,off,h2,_,_,h3⟩:=D p;exact⟨b,off,h2,h3⟩
 have B:=qi f cv n (fun i hi=>by obtain⟨U,kc,e⟩:=(d i hi).form;rw[e];rfl);clear d S q1 D;go_enter Tryz.func159,Tryz.ntmps159;go_wp2_with fail;refine(zD7 a n c (sc f cv n) w (Gz _ _ _) B hn x).mono ?_;rintro e W ⟨V,rfl,t,Q,_⟩;obtain⟨a1,c1,rfl,T⟩:=Bh t;clear B x;have A:∃y,(0<n->a1=some ⟨y,0,none⟩/\w.heap.size<=y/\y<W.heap.size)/\GM W y n 0 f (fun _=>0) cv cv:=by
  by_cases p:0<n
  ·obtain⟨g,cap,hv,_,r,K,m⟩:=Fj t p;simp only[Value.slice.injEq,true_and]at hv;obtain⟨rfl,rfl⟩:=hv;refine⟨g,fun _=>⟨rfl,r,K⟩,fun j l=>⟨?_,?_,?_⟩,fun j l=>absurd l (Nat.not_lt_zero _),fun j l=>absurd l (Nat.not_lt_zero _),fun i j hi=>absurd hi (Nat.not_lt_zero _)⟩
   ·have:=m (j*3+0) _ (IU f cv n j 0 l (by omega));simpa using this
   ·have:=m (j*3+1) _ (IU f cv n j 1 l (by omega));simpa using this
   ·have:=m (j*3+2) _ (IU f cv n j 2 l (by omega));simpa using this
  ·exact⟨0,fun h=>absurd h p,fun j l=>absurd l (by omega),fun j l=>absurd l (Nat.not_lt_zero _),fun j l=>absurd l (Nat.not_lt_zero _),fun i j hi=>absurd hi (Nat.not_lt_zero _)⟩
 obtain⟨y,A,s⟩:=A;have z:=AR A;have F:=AR s;clear t A s;go_wp2
 go_loopw [4,5,10] (fun _ _ i wr=>∃(k:Nat) (H:Nat->Nat) (kv:Nat->Value),k<=n/\i = .int .i64 k/\GM wr y n k f H kv cv/\Below w.heap.size w wr/\W.heap.size<=wr.heap.size) (fun _ _ i _=>n - (intOf i).toNat)
 case atStart=>exact⟨0,_,_,Nat.zero_le _,rfl,F.out,Q,Nat.le_refl _⟩
 case round=>
  obtain⟨k,H,kv,S,rfl,X,P,hz⟩:=hrel;have I:=AR X;clear X;by_cases o:k<n
  ·have Y:(k:Int)<(n:Int):=(by omega);obtain⟨rfl,r,K⟩:=z.out (by omega);obtain⟨U,kc,d⟩:=(E.out k o).form;have M:Hid (CQ wr lo hi (.int .i64 (f k).birth) (.slice U (f k).kn kc) (.string (f k).data) (f k)):=by
    have:=(E.out k o).A0 P;rw[d]at this;exact this
   obtain⟨⟨Z,r0⟩,q1,⟨q2,r2⟩⟩:=I.out.cells k o;rw[if_neg (by omega),d]at q1;obtain⟨q1,r1⟩:=q1;go_wp2_with fail;have O:=AC wr (.cells #[.int .i64 (f k).birth,.slice U (f k).kn kc,.string (f k).data] 86);refine(zCe _ _ _ lo hi (f k) _ (M.out.A0 O) (Hk.out k o)).mono ?_;rintro e w2 ⟨nv,nb,rfl,G,C,J⟩;obtain⟨_,na,nc,rfl,_⟩:=id G;have q:=A7 O J;have L:=AR (I.out.next o (by omega) q G (fun p=>by have:=C p;rw[World.size_alloc]at this;omega));have R:=A7 P q;have iA:=q.size;clear Z q1 q2 r0 r1 r2;obtain⟨⟨Z,r0⟩,q1,⟨q2,r2⟩⟩:=(I.out.A0 q).cells k o;rw[if_neg (by omega),d]at q1;obtain⟨q1,r1⟩:=q1;clear G C J O q d;go_wp2;go_roundw
   case rel=>exact⟨k+1,_,_,by omega,by go_num,L.out,((R.setCell r _).setCell r _).setCell r _,by simp only[World.size_setCell];omega⟩
   case measure=>simp[intOf];omega
  ·obtain rfl:k=n:=(by omega);go_wp2;go_ret;refine⟨_,y,H,kv,rfl,I.out.own Hm.out (fun p=>(z.out p).1) T (fun j l=>(E.out j l).2.2.2),I.out.C7,fun j l=>?_,P⟩;rcases l with⟨p,rfl⟩ | ⟨i,hi,p,rfl⟩
   ·have:=z.out p;omega
   ·have:=z.out (by omega);have:=I.out.C8 i hi p;omega
theorem P1(v0 v1:Value)(lo hi:Nat)(p:A5)(w:World)(U:C6 w lo hi v0 v1 p)(hn:An p<=1048576):Calls Tryz.prog 126 #[.agg #[v0,v1]] w (Tu p w):=by
 have S:=AR U;obtain⟨⟨Z,a,c,rfl,mc,g1⟩,⟨m2,y,c',rfl,nA,g2⟩⟩:=U;have Hm:=AR (And.intro Z m2);clear g1 g2 Z m2;unfold An at hn;have Hn:Hid (∀j,j<p.n->(p.s j).kn<=1048576):=fun j hj=>by have h2:=UC p.s hj;unfold Cf at h2;omega
 have N:p.n<=1048576:=by omega
 have O:p.hn<=1048576:=by omega
 clear hn;have z:=AC w (.cells #[.slice a p.n c,.slice y p.hn c'] 26);have m:=A7 z (AC _ (.cells #[.slice none 0 0,.slice none 0 0] 26));have D:=AR ((Ac.new w (.slice a p.n c) (.slice y p.hn c') 26).A0 (AC _ (.cells #[.slice none 0 0,.slice none 0 0] 26)));have u:=Ac.new (w.alloc (.cells #[.slice a p.n c,.slice y p.hn c'] 26)) (.slice none 0 0) (.slice none 0 0) 26;rw[World.size_alloc]at u;have E:=AR u;clear z u;go_enter Tryz.func126,Tryz.ntmps126;go_wp2_with fail;generalize V:(w.alloc (.cells #[.slice a p.n c,.slice y p.hn c'] 26)).alloc (.cells #[.slice none 0 0,.slice none 0 0] 26)=W at D E m ⊢;have X:W.heap.size=w.heap.size+2:=by rw[<-V,World.size_alloc,World.size_alloc]
 clear V;obtain⟨⟨x0,x1⟩,⟨x2,x3⟩⟩:=D.out;obtain⟨⟨y0,y1⟩,⟨y2,y3⟩⟩:=E.out;go_region_held3 (fun w'=>w'.cell? ⟨w.heap.size,0,none⟩=some (.slice a p.n c)/\w'.cell? ⟨w.heap.size,1,none⟩=some (.slice y p.hn c')) (go_keep)
  (first
   | (go_at_call 159;refine(ZX _ p.n lo hi p.s _ ?_ N Hn.out).mono ?_;(exact S.out.1.A0 m.drew);rintro e R ⟨v',T,Y,kv,rfl,P,A,C,B⟩;obtain⟨_,H,q,rfl,_⟩:=id P;have b:=Cr B;obtain⟨⟨z0,z1⟩,⟨z2,z3⟩⟩:=D.out.A0 b)
   | (go_at_call 169;refine(zCc _ _ _ (ic p.h p.hn) _ (Ie _ _) (zHs _ _) O ?_).mono ?_;(exact TM S.out.2 rfl (A7 m b));rintro e I ⟨v',rfl,g,l,Q⟩;obtain⟨G,o,rfl,_⟩:=Bh g;have d:=A7 b l;obtain⟨⟨z4,z5⟩,⟨z6,z7⟩⟩:=D.out.A0 d;have J:=AR (E.out.A0 d);obtain⟨⟨z8,z9⟩,⟨pA,rA⟩⟩:=E.out.A0 d))
 obtain⟨hb,r,f⟩:=zCU Hm.out.2 g Q;have lA:W.heap.size<=R.heap.size:=b.size;have mA:R.heap.size<=I.heap.size:=l.size;have i:∀k,FU T Y p.n p.s k->W.heap.size<=k/\k<R.heap.size:=C;have K:Hid (Bo I (w.heap.size+2) I.heap.size (.slice H p.n q) (.slice G p.hn o) p):=by
  refine⟨T,hb,Y,kv,P.A0 l,A,r,fun L hx=>?_,fun k F=>?_⟩
  ·have:=i _ hx;have:=f L;omega
  ·rcases F with F | ⟨L,rfl⟩
   ·have:=i _ F;omega
   ·have:=f L;omega
 have M:=A7 m d;clear r f C i P A g B b l d;go_wp2;have x:=J.out.put (.slice H p.n q) (.slice G p.hn o);refine bodyPost_ret (v:=.agg #[.slice H p.n q,.slice G p.hn o]) (by simp[results,Tryz.results126,go_sem,x.1.1,x.2.1]) rfl ⟨_,_,rfl,?_,?_⟩
 ·have t:=(AE.put I (w.heap.size+1) 0 (.slice H p.n q)).trans (AE.put _ (w.heap.size+1) 1 (.slice G p.hn o));have X:=t.size;exact(K.out.AD t (fun k F=>by omega)).wide (by omega) X
 ·exact(M.setCell (by show _<=w.heap.size+1;omega) _).setCell (by show _<=w.heap.size+1;omega) _
def CM(p:A5)(xs:Int):A5:={n:=p.n,s:=p.s,hn:=p.hn+1,h:=fun i=>if i=p.hn then xs else p.h i}
open Classical in
noncomputable def JP(p:A5)(xs xb:Int):Dm:=if AY p then(if B5 p xs xb/\¬Has p.hn p.h xs then⟨CM p xs,0,0,0⟩else⟨Ck 0,0,0,4⟩)else⟨Ck 0,0,0,1⟩
variable{p:A5}{xs xb:Int}
theorem zAD(h:¬AY p):JP p xs xb=⟨Ck 0,0,0,1⟩:=if_neg h
theorem Vb(h:AY p)(a:¬(B5 p xs xb/\¬Has p.hn p.h xs)):JP p xs xb=⟨Ck 0,0,0,4⟩:=(if_pos h).trans (if_neg a)
theorem To(h:AY p)(b:B5 p xs xb)(a:¬Has p.hn p.h xs):JP p xs xb=⟨CM p xs,0,0,0⟩:=(if_pos h).trans (if_pos ⟨b,a⟩)
variable{f g:Nat->Int}
theorem zEr(h:∀i,i<n->f i=g i):ic f n=ic g n:=by
 induction n with
 | zero=>rfl
 | succ n ih=>
  unfold ic;rw[ih (fun i hi=>h i (by omega)),h n (by omega)]
theorem zG5(p:A5)(xs:Int):ic (CM p xs).h (p.hn+1)=ic p.h p.hn ++ [.int .i64 xs]:=by
 show ic (CM p xs).h p.hn ++ [.int .i64 ((CM p xs).h p.hn)]=_;rw[zEr (f:=(CM p xs).h) (g:=p.h) (fun i hi=>if_neg (by omega)),show(CM p xs).h p.hn=xs from if_pos rfl]
theorem zIE(w:World)(a b d e:Value)(c f g:TypeId) :
 Ac (((w.alloc (.cells #[a,b] c)).alloc (.cells #[d,e] f)).alloc (.cells #[.slice none 0 0,.slice none 0 0,.int .i64 0,.int .i64 0,.int .i64 0] g)) w.heap.size a b/\
 Ac (((w.alloc (.cells #[a,b] c)).alloc (.cells #[d,e] f)).alloc (.cells #[.slice none 0 0,.slice none 0 0,.int .i64 0,.int .i64 0,.int .i64 0] g)) (w.heap.size+1) d e/\
 Dp (((w.alloc (.cells #[a,b] c)).alloc (.cells #[d,e] f)).alloc (.cells #[.slice none 0 0,.slice none 0 0,.int .i64 0,.int .i64 0,.int .i64 0] g)) (w.heap.size+1+1) (.slice none 0 0) (.slice none 0 0) (.int .i64 0) (.int .i64 0) (.int .i64 0)/\
 Below w.heap.size w (((w.alloc (.cells #[a,b] c)).alloc (.cells #[d,e] f)).alloc (.cells #[.slice none 0 0,.slice none 0 0,.int .i64 0,.int .i64 0,.int .i64 0] g))/\
 (((w.alloc (.cells #[a,b] c)).alloc (.cells #[d,e] f)).alloc (.cells #[.slice none 0 0,.slice none 0 0,.int .i64 0,.int .i64 0,.int .i64 0] g)).heap.size=w.heap.size+3:=by
 refine⟨((Ac.new w a b c).A0 (AC _ _)).A0 (AC _ _),?_,?_,A7 (A7 (AC _ _) (AC _ _)) (AC _ _),by simp⟩
 ·have:=(Ac.new (w.alloc (.cells #[a,b] c)) d e f).A0 (AC _ (.cells #[.slice none 0 0,.slice none 0 0,.int .i64 0,.int .i64 0,.int .i64 0] g));rw[World.size_alloc]at this;exact this
 ·have:=Dp.new ((w.alloc (.cells #[a,b] c)).alloc (.cells #[d,e] f)) (.slice none 0 0) (.slice none 0 0) (.int .i64 0) (.int .i64 0) (.int .i64 0) g;rw[World.size_alloc,World.size_alloc]at this;exact this
variable{R:Nat}
theorem Nb{s0 s1 u2 u3 u4:Value}(f:Bo wr lo hi s0 s1 p)(b:R<lo)(e:w.heap.size<=R)(c:hi<=wr.heap.size)(a:Below w.heap.size w wr) :
 Bo (put5 wr R s0 s1 u2 u3 u4) w.heap.size (put5 wr R s0 s1 u2 u3 u4).heap.size s0 s1 p/\Below w.heap.size w (put5 wr R s0 s1 u2 u3 u4):=by
 have t:=AE.put5 wr R s0 s1 u2 u3 u4;have g:=t.size;exact⟨(f.AD t (fun k d=>by omega)).wide (by omega) (by omega),a.trans (t.A0 (by have:=a.size;omega) (fun k d=>by omega))⟩
theorem Jh{u2 u3 u4:Value}(b:w.heap.size<=R)(a:Below w.heap.size w wr) :
 Bo (put5 wr R (.slice none 0 0) (.slice none 0 0) u2 u3 u4) w.heap.size (put5 wr R (.slice none 0 0) (.slice none 0 0) u2 u3 u4).heap.size (.slice none 0 0) (.slice none 0 0) (Ck 0)/\Below w.heap.size w (put5 wr R (.slice none 0 0) (.slice none 0 0) u2 u3 u4):=by
 have t:=AE.put5 wr R (.slice none 0 0) (.slice none 0 0) u2 u3 u4;exact⟨QJ,a.trans (t.A0 (by have:=a.size;omega) (fun k c=>by omega))⟩
theorem ZT(t:AE (fun k=>k=b) w w'):w.grownBy w' (some b):=⟨t.os,t.tape,t.output,t.size,fun k c a=>t.block k c (fun e=>a (by rw[e]))⟩
theorem zIW(w:World)(x:Value)(t:TypeId):∀j u,[x][j]?=some u->(w.alloc (.cells #[x] t)).cell? ((⟨w.heap.size,0,none⟩:Addr).add j)=some u:=by
 intro j u a
 match j,a with
 | 0,a=>simp at a;subst a;simp[Addr.add]
 | (j+1),a=>simp at a
theorem zY(x:Int):∀u∈[Value.int .i64 x],u.oneCell'=true:=by
 intro u a;simp only[List.mem_cons,List.not_mem_nil,or_false]at a;rw[a];rfl
theorem Ta(h:D6 w lo hi (.slice a n c) n f)(i:Below w.heap.size w w'):∀b,a=some b->∀j u,(ic f n)[j]?=some u->w'.cell? (b.add j)=some u:=by
 intro b d j u e;have l:j<n:=by
  have:=(List.getElem?_eq_some_iff.1 e).1;rw[Ie]at this;omega
 obtain⟨m,off,g,k⟩:=TM h rfl i (by omega);rw[g]at d;simp only[Option.some.injEq]at d;subst d;rw[add_lit];exact k j u e
theorem Ui(h:D6 w lo hi (.slice a n c) n f):a=none->n=0/\n=0:=fun e=>by
 obtain⟨_,j,k,hv,_,i⟩:=h;simp only[Value.slice.injEq,true_and]at hv;obtain⟨rfl,rfl⟩:=hv;by_cases d:0<n
 ·obtain⟨b,off,g,_⟩:=i d;rw[g]at e;cases e
 ·omega
theorem Ru(h:w.grownBy w' none):Below w.heap.size w w':=⟨h.os,h.tape,h.output,h.size,fun k a=>h.block k a (by simp)⟩
theorem zFS{x:Value}(h:w.cell? ⟨b,0,none⟩=some x):∀j u,[x][j]?=some u->w.cell? ((⟨b,0,none⟩:Addr).add j)=some u:=by
 intro j u a
 match j,a with
 | 0,a=>simp at a;subst a;rw[add_lit];exact h
 | (j+1),a=>simp at a
def Aq(p:A5)(i:Nat)(s:AG):A5:={n:=p.n,s:=fun j=>if j=i then s else p.s j,hn:=p.hn,h:=p.h}
theorem zFi{s0 s1:Value}(e:Bo wr lo hi s0 s1 p)(b:R<lo)(a:w.heap.size<=R)(d:hi<=wr.heap.size)(c:Below w.heap.size w wr) :
 Bo ((wr.setCell ⟨R,0,none⟩ s0).setCell ⟨R,1,none⟩ s1) w.heap.size ((wr.setCell ⟨R,0,none⟩ s0).setCell ⟨R,1,none⟩ s1).heap.size s0 s1 p/\Below w.heap.size w ((wr.setCell ⟨R,0,none⟩ s0).setCell ⟨R,1,none⟩ s1):=by
 have t:=(AE.put wr R 0 s0).trans (AE.put _ R 1 s1);have g:=t.size;exact⟨(e.AD t (fun k f=>by omega)).wide (by omega) (by omega),(c.setCell a _).setCell a _⟩
def BU(n:Nat)(f:Nat->AG)(i:Nat):Prop:=i<n/\Ag (f i)/\∀j,j<i->¬Ag (f j)
variable{j:Nat}
theorem BU.uniq{f:Nat->AG}{i:Nat}(h:BU n f i)(a:BU n f j):i=j:=by
 rcases Nat.lt_trichotomy i j with e | e | e
 ·exact absurd h.2.1 (a.2.2 i e)
 ·exact e
 ·exact absurd a.2.1 (h.2.2 j e)
open Classical in
noncomputable def By(p:A5)(s:AG):Dm:=
 if AY p/\¬Ag s/\Bm p s then(if h:∃i,BU p.n p.s i then⟨Aq p (Classical.choose h) s,((Classical.choose h:Nat):Int),s.birth,0⟩else⟨Ck 0,0,0,6⟩)else⟨Ck 0,0,0,1⟩
theorem R9(h:¬(AY p/\¬Ag s/\Bm p s)):By p s=⟨Ck 0,0,0,1⟩:=if_neg h
theorem Kw(h:AY p/\¬Ag s/\Bm p s)(a:∀j,j<p.n->¬Ag (p.s j)):By p s=⟨Ck 0,0,0,6⟩:=by
 unfold By;rw[if_pos h,dif_neg (fun ⟨i,hi⟩=>a i hi.1 hi.2.1)]
theorem Ka{i:Nat}(h:AY p/\¬Ag s/\Bm p s)(b:BU p.n p.s i):By p s=⟨Aq p i s,(i:Int),s.birth,0⟩:=by
 unfold By;have a:∃i,BU p.n p.s i:=⟨i,b⟩;rw[if_pos h,dif_pos a];have e:Classical.choose a=i:=(Classical.choose_spec a).uniq b;rw[e]
theorem zCu(b:AY p)(c:¬Ag s):Js p.n p.s s↔Bm p s:=by
 have a:∀i,i<p.n->¬Ag (p.s i)->1<=(p.s i).birth:=fun i hi=>RN (b.2.1 i hi)
 constructor
 ·rintro(h | h | h)
  ·exact absurd h c
  ·exact⟨h.1,Or.inl h.2⟩
  ·exact⟨h.1.1,Or.inr ⟨h.1.2.1,h.1.2.2,fun j d=>(NV a).1 (h.2 j (by have:=h.1.2.1;omega))⟩⟩
 ·intro h;rcases h.2 with g | g
  ·exact Or.inr (Or.inl ⟨h.1,g⟩)
  ·exact Or.inr (Or.inr ⟨⟨h.1,g.1,g.2.1⟩,fun j d=>(NV a).2 (g.2.2 j (by omega))⟩)
theorem zCj(v:Value)(n lo hi:Nat)(f:Nat->AG)(w:World)(u:CD w lo hi v n f) :
 Calls Tryz.prog 118 #[v,.func (.func 116) #[] #[]] w fun e w'=>((∃i:Nat,BU n f i/\e = .returned (.int .i64 (i:Int)))\/((∀j,j<n->¬Ag (f j))/\e = .returned (.int .i64 (-1))))/\Below w.heap.size w w':=by
 have y:=AR u;obtain⟨B,a,c,rfl,G,z⟩:=u;unfold maxLen at B;clear z;go_enter Tryz.func118,Tryz.ntmps118;go_wp2
 go_loopw [5,8] (fun _ i wr=>∃k:Nat,k<=n/\i = .int .i64 k/\(∀j,j<k->¬Ag (f j))/\Below w.heap.size w wr) (fun _ i _=>n - (intOf i).toNat)
 case atStart=>exact⟨0,Nat.zero_le _,rfl,fun j A=>absurd A (Nat.not_lt_zero _),Below.refl _ _⟩
 case round=>
  obtain⟨k,E,rfl,g,r⟩:=hrel;have d:=AR g;clear g;by_cases h:k<n
  ·have x:(k:Int)<(n:Int):=(by omega);obtain⟨b,off,F,kc,rfl,hs⟩:=(y.out.A0 r).cells h;have s:=AR hs;obtain⟨C,q1,D,_⟩:=hs;go_wp2_with fail;refine(L3 _ _ _ lo hi (f k) _ s.out.slot).mono ?_;rintro e H ⟨⟨t,rfl,p⟩,m⟩;have o:=A7 r m;clear m C q1 D s;by_cases l:Ag (f k)
   ·obtain rfl:t=true:=p.2 l;have q:=AR l;clear p l;go_wp2;go_ret;exact⟨Or.inl ⟨k,⟨h,q.out,d.out⟩,rfl⟩,o⟩
   ·obtain rfl:t=false:=BR p l;have q:=AR l;clear p l;go_wp2;go_roundw
    case rel=>exact⟨k+1,by omega,by go_num,Bu h d.out q.out,o⟩
    case measure=>simp[intOf];omega
  ·obtain rfl:k=n:=(by omega);go_wp2;go_ret;exact⟨Or.inr ⟨d.out,rfl⟩,r⟩
theorem BI.all(h:BI w lo hi v n f g):BI w 0 w.heap.size v n f g:=by
 obtain⟨e,a,cap,hv,c,j⟩:=h;refine⟨e,a,cap,hv,c,fun hn=>?_⟩;obtain⟨b,off,i,k,l,d⟩:=j hn;exact⟨b,off,i,Nat.zero_le _,AZ (d 0 hn).1,d⟩
theorem CQ.all{v0 v1 v2:Value}(h:CQ w lo hi v0 v1 v2 s):CQ w 0 w.heap.size v0 v1 v2 s:=⟨h.1,h.2.1.all,h.2.2⟩
theorem D6.all(h:D6 w lo hi v n f):D6 w 0 w.heap.size v n f:=by
 obtain⟨e,a,cap,hv,c,i⟩:=h;refine⟨e,a,cap,hv,c,fun hn=>?_⟩;obtain⟨b,off,g,j,k,d⟩:=i hn;exact⟨b,off,g,Nat.zero_le _,AZ (d 0 hn),d⟩
variable{f:Nat->AG}
theorem XE{g:Nat->AG}{a:Nat->Value}(h:∀i,i<k->f i=g i/\kv i=a i):sc f kv k=sc g a k:=by
 induction k with
 | zero=>rfl
 | succ k ih=>
   unfold sc;rw[ih (fun i hi=>h i (by omega)),(h k (by omega)).1,(h k (by omega)).2]
theorem R3(f:Nat->AG)(kv:Nat->Value)(k m:Nat):sc f kv (k+m)=sc f kv k ++ sc (fun i=>f (k+i)) (fun i=>kv (k+i)) m:=by
 induction m with
 | zero=>simp[sc]
 | succ m ih=>
   show sc f kv (k+m) ++ [.int .i64 (f (k+m)).birth,kv (k+m),.string (f (k+m)).data]=sc f kv k ++ (sc (fun i=>f (k+i)) (fun i=>kv (k+i)) m ++ [.int .i64 (f (k+m)).birth,kv (k+m),.string (f (k+m)).data]);rw[ih,List.append_assoc]
theorem zDy{u:Value}(h:k<=n)(b:(sc f kv k)[j]?=some u):(sc f kv n)[j]?=some u:=by
 obtain⟨m,rfl⟩:=Nat.exists_eq_add_of_le h;have a:=(List.getElem?_eq_some_iff.1 b).1;rw[R3,List.getElem?_append_left a];exact b
theorem zDz{m:Nat}{u:Value}(a:(sc (fun i=>f (k+i)) (fun i=>kv (k+i)) m)[j]?=some u):(sc f kv (k+m))[k*3+j]?=some u:=by
 rw[R3,List.getElem?_append_right (by rw[Gz];omega),Gz];rw[show k*3+j - k*3=j by omega];exact a
theorem Y3(f:Nat->AG)(i:Nat)(s:AG):∀n,D9 (fun j=>if j=i then s else f j) n<=D9 f n+(if i<n then Cf s else 0)
 | 0=>Nat.zero_le _
 | n+1=>by
   have a:=Y3 f i s n;show D9 (fun j=>if j=i then s else f j) n+Cf (if n=i then s else f n)<=D9 f n+Cf (f n)+_;by_cases e:n=i
   · rw[if_pos e,if_pos (by omega)]
     rw[if_neg (by omega)]at a;omega
   · rw[if_neg e]
     by_cases b:i<n
     · rw[if_pos b]at a
       rw[if_pos (by omega)];omega
     · rw[if_neg b]at a
       rw[if_neg (by omega)];omega
theorem XG(p:A5)(i:Nat)(s:AG):An (Aq p i s)<=An p+Cf s:=by
 have h:=Y3 p.s i s p.n;have a:(if i<p.n then Cf s else 0)<=Cf s:=(by split<;>omega);show p.n+D9 (fun j=>if j=i then s else p.s j) p.n+p.hn<=p.n+D9 p.s p.n+p.hn+Cf s;omega
theorem zI4{kv:Value}{a:Nat}(h:a<p.n) :
 sc p.s cv a ++ [.int .i64 s.birth,kv,.string s.data] ++ sc (fun i=>p.s (a+1+i)) (fun i=>cv (a+1+i)) (p.n - (a+1))=sc (Aq p a s).s (fun j=>if j=a then kv else cv j) p.n:=by
 have e:=R3 (Aq p a s).s (fun j=>if j=a then kv else cv j) (a+1) (p.n - (a+1));rw[show a+1+(p.n - (a+1))=p.n by omega]at e;rw[e];congr 1
 · show _=sc (Aq p a s).s (fun j=>if j=a then kv else cv j) a ++ [.int .i64 ((Aq p a s).s a).birth,(if a=a then kv else cv a),.string ((Aq p a s).s a).data]
   rw[show(Aq p a s).s a=s from if_pos rfl,if_pos rfl];congr 1;exact XE fun i hi=>⟨(if_neg (by omega:¬i=a)).symm,(if_neg (by omega:¬i=a)).symm⟩
 · exact XE fun i hi=>⟨(if_neg (by omega:¬a+1+i=a)).symm,(if_neg (by omega:¬a+1+i=a)).symm⟩
theorem zAT{base e:Nat}(k:n<=maxLen)(h:w.ownsRow base e 3 v n (sc f cv n))(hs:∀i,i<n->CQ w 0 w.heap.size (.int .i64 (f i).birth) (cv i) (.string (f i).data) (f i)):CD w 0 w.heap.size v n f:=by
 by_cases j:0<n
 · obtain⟨g,cap,rfl,c,l,d,b⟩:=Fj h j
   refine⟨k,_,cap,rfl,c,fun _=>⟨g,0,rfl,Nat.zero_le _,d,fun i hi=>⟨_,_,_,?_,?_,?_,hs i hi⟩⟩⟩
   · have:=(b (i*3+0) _ (IU f cv n i 0 hi (by omega))).1;simpa using this
   · have:=(b (i*3+1) _ (IU f cv n i 1 hi (by omega))).1;simpa using this
   · have:=(b (i*3+2) _ (IU f cv n i 2 hi (by omega))).1;simpa using this
 · obtain⟨a,cap,rfl,c⟩:=Bh h
   exact⟨k,a,cap,rfl,c,fun h=>absurd h j⟩
theorem zC3(v0 v1 kv:Value)(lo hi lo' hi' d:Nat)(p:A5)(s:AG)(w:World)(Q:C6 w lo hi v0 v1 p)(h2:CQ w lo' hi' (.int .i64 s.birth) kv (.string s.data) s)(kA:d<p.n)(hn:An p+Cf s<=1048576) :
 Calls Tryz.prog 119 #[.agg #[v0,v1],.int .i64 (d:Int),.agg #[.int .i64 s.birth,kv,.string s.data]] w (Tu (Aq p d s) w):=by
 have Hp:=AR Q;have Hs:=AR h2;have Hn:=AR hn;have bC:p.n<=1048576:=(by unfold An at hn;omega);have cC:p.hn<=1048576:=(by unfold An at hn;omega);obtain⟨a,c,L,c',rfl,rfl⟩:=Q.form;obtain⟨G,kc,rfl⟩:=h2.form;have mc:p.n<=c:=(by obtain⟨⟨_,_,_,e,h,_⟩,_⟩:=Q;simp only[Value.slice.injEq,true_and]at e;omega);obtain⟨cv,V,F⟩:=Q.1.values;obtain⟨b,off,rfl,lA,mA,m⟩:=F (by omega);have O:=AR V;have t:=AR m;have U:b<w.heap.size:=by
  have:=m 0 _ (by have:=IU p.s cv p.n 0 0 (by omega) (by omega);simpa using this);exact AZ this
 obtain⟨i1,X,z⟩:=Option.map_eq_some_iff.1 Vh;simp only[Prod.mk.injEq]at z;have l:=AR (And.intro X z);clear Q h2 hn V F m X z lA mA;have S:=AC w (.cells #[.slice (some ⟨b,off,none⟩) p.n c,.slice L p.hn c'] 26);have T:=A7 S (AC _ (.cells #[.int .i64 s.birth,.slice G s.kn kc,.string s.data] 86));have D:=A7 T (AC _ (.cells #[.slice none 0 0,.slice none 0 0] 26));have HB:=AR (((Ac.new w (.slice (some ⟨b,off,none⟩) p.n c) (.slice L p.hn c') 26).A0 (AC _ (.cells #[.int .i64 s.birth,.slice G s.kn kc,.string s.data] 86))).A0 (AC _ (.cells #[.slice none 0 0,.slice none 0 0] 26)));have K:=(CY.new (w.alloc (.cells #[.slice (some ⟨b,off,none⟩) p.n c,.slice L p.hn c'] 26)) (.int .i64 s.birth) (.slice G s.kn kc) (.string s.data) 86).A0 (AC _ (.cells #[.slice none 0 0,.slice none 0 0] 26));rw[World.size_alloc]at K;have HS:=AR K;have J:=Ac.new ((w.alloc (.cells #[.slice (some ⟨b,off,none⟩) p.n c,.slice L p.hn c'] 26)).alloc (.cells #[.int .i64 s.birth,.slice G s.kn kc,.string s.data] 86)) (.slice none 0 0) (.slice none 0 0) 26;rw[World.size_alloc,World.size_alloc]at J;have HR:=AR J;clear S T K J;go_enter Tryz.func119,Tryz.ntmps119;go_wp2_with fail;generalize hW:((w.alloc (.cells #[.slice (some ⟨b,off,none⟩) p.n c,.slice L p.hn c'] 26)).alloc (.cells #[.int .i64 s.birth,.slice G s.kn kc,.string s.data] 86)).alloc (.cells #[.slice none 0 0,.slice none 0 0] 26)=W at HB HS HR D ⊢;have hz:W.heap.size=w.heap.size+3:=(by rw[<-hW,World.size_alloc,World.size_alloc,World.size_alloc]);clear hW;obtain⟨⟨x0,x1⟩,⟨x2,x3⟩⟩:=HB.out;obtain⟨⟨y0,y1⟩,⟨y2,y3⟩,⟨y4,y5⟩⟩:=HS.out;have iB:(d:Int)<=(c:Int):=(by omega);have n0:W.heap.size≠w.heap.size:=(by omega);have n1:W.heap.size≠w.heap.size+1:=(by omega);go_region_held3 (fun w'=>w'.cell? ⟨w.heap.size,0,none⟩=some (.slice (some ⟨b,off,none⟩) p.n c)/\w'.cell? ⟨w.heap.size+1,0,none⟩=some (.int .i64 s.birth)/\w'.cell? ⟨w.heap.size+1,1,none⟩=some (.slice G s.kn kc)/\w'.cell? ⟨w.heap.size+1,2,none⟩=some (.string s.data)) (go_keep)
  (first
    | (refine step_append_grows rfl (.tmp 12) (.tmp 14) 23 rfl 86 i1 (.agg #[.int .i64 0,.slice none 0 0,.string ⟨#[]⟩]) 3 48 (by kernel_rfl) l.out.1 l.out.2.1 l.out.2.2.1 l.out.2.2.2 rfl (by decide) (some ⟨b,off,none⟩) d d (sc p.s cv d) (by simp[Act.eval]) (fun e=>by cases e) (Gz _ _ _) ?_ ⟨W.heap.size,0,none⟩ 1 1 [.int .i64 s.birth,.slice G s.kn kc,.string s.data] (by simp[Act.eval]) rfl ?_ (zIy _ _ _ _ _) (by omega) (by unfold maxLen;omega) (by omega) ?_
       exact fun b1 e j u E=>by
        simp only[Option.some.injEq]at e;subst e;rw[add_lit];exact((A7 D (AC W _)).drew.cell (p:=⟨b,off+j,none⟩) U).trans (t.out j u (zDy (by omega) E))
       exact zIX W _ _ _ _;intro v4 w4 o q;obtain⟨g4,c4,rfl,_⟩:=o.form (by omega);have y:Below W.heap.size W w4:=A7 (AC W _) (Cr (Ru q));have x:=AR (Nz (B:=W.heap.size) o (by simp));obtain⟨⟨p0,p1⟩,⟨p2,p3⟩⟩:=HB.out.A0 y;obtain⟨⟨p4,p5⟩,⟨p6,p7⟩,⟨p8,p9⟩⟩:=HS.out.A0 y;clear o q))
 have iA:=A7 D y;have jB:(d:Int)+1<=(p.n:Int):=(by omega);have oA:=y.size;clear x0 x1 x2 x3 y0 y1 y2 y3 y4 y5 p4 p5 p6 p7 p8 p9 HS;have dA:Hid (∀j u,(sc (fun i=>p.s (d+1+i)) (fun i=>cv (d+1+i)) (p.n - (d+1)))[j]?=some u->w4.cell? ((⟨b,off+(d+1)*3,none⟩:Addr).add j)=some u):=fun j u E=>by
  have e:=zDz (f:=p.s) (kv:=cv) E;rw[show d+1+(p.n - (d+1))=p.n by omega]at e;rw[add_lit,show off+(d+1)*3+j=off+((d+1)*3+j)by omega];exact(iA.cell (p:=⟨b,off+((d+1)*3+j),none⟩) U).trans (t.out _ u e)
 have oB:Hid (c=d+1->∀j u,(sc (fun i=>p.s (d+1+i)) (fun i=>cv (d+1+i)) (p.n - (d+1)))[j]?=some u->w4.cell? ((⟨b,off,none⟩:Addr).add j)=some u):=fun vB j u E=>by
  rw[show p.n - (d+1)=0 by omega]at E;simp[sc]at E
 have P:Hid (∀u∈sc (fun i=>p.s (d+1+i)) (fun i=>cv (d+1+i)) (p.n - (d+1)),u.oneCell'=true):=qi _ _ _ (fun i hi=>by obtain⟨eC,fC,e⟩:=(O.out (d+1+i) (by omega)).form;rw[e];rfl);go_wp2_with (first
  | (at_builtin;refine Jx rfl _ _ 23 rfl W.heap.size 86 i1 (.agg #[.int .i64 0,.slice none 0 0,.string ⟨#[]⟩]) 3 48 (by kernel_rfl) l.out.1 l.out.2.1 l.out.2.2.1 l.out.2.2.2 rfl (by decide) (.slice (some ⟨g4,0,none⟩) (d+1) c4) (d+1) _ rfl x.out _ (p.n - (d+1)) _ (sc (fun i=>p.s (d+1+i)) (fun i=>cv (d+1+i)) (p.n - (d+1))) rfl (Gz _ _ _) P.out (by intro hm;exact⟨b,off+(d+1)*3,(by first | rw[if_neg (by omega)] | rfl | simp),fun j u E=>by have hq:=dA.out j u E;rw[add_lit]at hq;exact hq⟩) ?c3 ?c4 ?c5 ?_))
 case c3=>unfold maxLen;omega
 case c4=>omega
 case c5=>omega
 all_goals
  intro v5 Z g r _;have hl:=zI4 (s:=s) (cv:=cv) (kv:=.slice G s.kn kc) kA;simp only[List.append_assoc,List.cons_append,List.nil_append]at hl g;rw[show d+1+(p.n - (d+1))=p.n by omega,hl]at g;clear hl;obtain⟨g5,c5,rfl,_⟩:=g.form (by omega);have C:Below W.heap.size W Z:=y.grown r oA (fun k hk=>(x.out.lt k hk).1);have A:=A7 D C;have fA:Hid (C6 Z 0 Z.heap.size (.slice (some ⟨g5,0,none⟩) p.n c5) (.slice L p.hn c') (Aq p d s)):=by
   refine⟨zAT (by show p.n<=maxLen;unfold maxLen;omega) g (fun i hi=>?_),(Hp.out.2.A0 A).all⟩;by_cases e:i=d
   · subst e
     rw[show(Aq p i s).s i=s from if_pos rfl];simp only[if_true];exact(Hs.out.A0 A).all
   · rw[show(Aq p d s).s i=p.s i from if_neg e]
     simp only[if_neg e];exact((O.out i hi).A0 A).all
  have cA:=AR (HR.out.A0 C);have dC:w.heap.size+3<=Z.heap.size:=(by have:=C.size;omega);clear g r p0 p1 p2 p3;obtain⟨⟨p0,p1⟩,⟨p2,p3⟩⟩:=HB.out.A0 C;go_wp2_with fail;refine(P1 _ _ 0 Z.heap.size (Aq p d s) _ fA.out (by have:=XG p d s;have:=Hn.out;omega)).mono ?_;rintro e w6 ⟨s0,s1,rfl,I,H⟩;obtain⟨a6,c6,a7,c7,rfl,rfl⟩:=I.form;have M:=AR (cA.out.A0 H);have eA:=AR I;have jA:=A7 A H;clear I H p0 p1 p2 p3;obtain⟨⟨u0,u1⟩,⟨u2,u3⟩⟩:=M.out;go_wp2;have N:=M.out.put (.slice a6 (Aq p d s).n c6) (.slice a7 (Aq p d s).hn c7);have Y:=zFi (R:=w.heap.size+1+1) eA.out (by omega) (by omega) (Nat.le_refl _) jA;exact bodyPost_ret (v:=.agg #[.slice a6 (Aq p d s).n c6,.slice a7 (Aq p d s).hn c7]) (by simp[results,Tryz.results119,go_sem,N.1.1,N.2.1]) rfl ⟨_,_,rfl,Y.1,Y.2⟩
theorem zHI(w:World)(a b d e f:Value)(c g h:TypeId) :
 Ac (((w.alloc (.cells #[a,b] c)).alloc (.cells #[d,e,f] g)).alloc (.cells #[.slice none 0 0,.slice none 0 0,.int .i64 0,.int .i64 0,.int .i64 0] h)) w.heap.size a b/\
 CY (((w.alloc (.cells #[a,b] c)).alloc (.cells #[d,e,f] g)).alloc (.cells #[.slice none 0 0,.slice none 0 0,.int .i64 0,.int .i64 0,.int .i64 0] h)) (w.heap.size+1) d e f/\
 Dp (((w.alloc (.cells #[a,b] c)).alloc (.cells #[d,e,f] g)).alloc (.cells #[.slice none 0 0,.slice none 0 0,.int .i64 0,.int .i64 0,.int .i64 0] h)) (w.heap.size+1+1) (.slice none 0 0) (.slice none 0 0) (.int .i64 0) (.int .i64 0) (.int .i64 0)/\
 Below w.heap.size w (((w.alloc (.cells #[a,b] c)).alloc (.cells #[d,e,f] g)).alloc (.cells #[.slice none 0 0,.slice none 0 0,.int .i64 0,.int .i64 0,.int .i64 0] h))/\
 (((w.alloc (.cells #[a,b] c)).alloc (.cells #[d,e,f] g)).alloc (.cells #[.slice none 0 0,.slice none 0 0,.int .i64 0,.int .i64 0,.int .i64 0] h)).heap.size=w.heap.size+3:=by
 refine⟨((Ac.new w a b c).A0 (AC _ _)).A0 (AC _ _),?_,?_,A7 (A7 (AC _ _) (AC _ _)) (AC _ _),by simp⟩
 ·have:=(CY.new (w.alloc (.cells #[a,b] c)) d e f g).A0 (AC _ (.cells #[.slice none 0 0,.slice none 0 0,.int .i64 0,.int .i64 0,.int .i64 0] h));rw[World.size_alloc]at this;exact this
 ·have:=Dp.new ((w.alloc (.cells #[a,b] c)).alloc (.cells #[d,e,f] g)) (.slice none 0 0) (.slice none 0 0) (.int .i64 0) (.int .i64 0) (.int .i64 0) h;rw[World.size_alloc,World.size_alloc]at this;exact this
theorem Za(v0 v1 kv:Value)(lo hi lo' hi':Nat)(p:A5)(s:AG)(w:World)(h1:C6 w lo hi v0 v1 p)(h2:CQ w lo' hi' (.int .i64 s.birth) kv (.string s.data) s)(hn:An p+Cf s<=1048576) :
 Calls Tryz.prog 54 #[.agg #[v0,v1],.agg #[.int .i64 s.birth,kv,.string s.data]] w (PX (By p s) w):=by
 have Hp:=AR h1;have Hs:=AR h2;have Hn:=AR hn;obtain⟨a,c,a',c',rfl,rfl⟩:=h1.form;obtain⟨ka,kc,rfl⟩:=h2.form;have aC:s.kn<=1048576:=by unfold Cf at hn;omega
 have bC:p.n<=1048576:=by unfold An at hn;omega
 have S:=zHI w (.slice a p.n c) (.slice a' p.hn c') (.int .i64 s.birth) (.slice ka s.kn kc) (.string s.data) 26 86 104;clear h1 h2 hn;go_enter Tryz.func54,Tryz.ntmps54;go_wp2_with fail;generalize ((w.alloc (.cells #[.slice a p.n c,.slice a' p.hn c'] 26)).alloc (.cells #[.int .i64 s.birth,.slice ka s.kn kc,.string s.data] 86)).alloc (.cells #[.slice none 0 0,.slice none 0 0,.int .i64 0,.int .i64 0,.int .i64 0] 104)=W at S ⊢;obtain⟨hB,hX,hR,J,hz⟩:=S;refine(Mc _ _ lo hi p _ (Hp.out.A0 J)).mono ?_;rintro e w1 ⟨⟨t,rfl,j⟩,q⟩;have M:=AR (hB.A0 q);have G:=AR (hX.A0 q);have B:=AR (hR.A0 q);have E:=A7 J q;have gB:w.heap.size+3<=w1.heap.size:=by have:=q.size;omega
 clear hB hX hR J q hz;by_cases o:AY p
 ·have D:=AR o;obtain rfl:t=true:=j.2 o;clear j o;obtain⟨⟨y0,y1⟩,⟨y2,y3⟩,⟨y4,y5⟩⟩:=G.out;go_wp2_with fail;refine(L3 _ _ _ lo' hi' s _ (Hs.out.A0 E)).mono ?_;rintro e w2 ⟨⟨t,rfl,j⟩,r⟩;have F:=AR (M.out.A0 r);have H:=AR (G.out.A0 r);have C:=AR (B.out.A0 r);have y:=A7 E r;have iB:w.heap.size+3<=w2.heap.size:=(by have:=r.size;omega);clear r E M G B gB y0 y1 y2 y3 y4 y5;by_cases hF:Ag s
  ·have Y:=AR hF;obtain rfl:t=true:=j.2 hF;clear j hF;obtain⟨⟨u0,u1⟩,⟨u2,u3⟩,⟨u4,u5⟩,⟨u6,u7⟩,⟨u8,u9⟩⟩:=C.out;go_wp2;have b:=C.out.put (.slice none 0 0) (.slice none 0 0) (.int .i64 0) (.int .i64 0) (.int .i64 1);have d:=Jh (R:=w.heap.size+1+1) (u2:=.int .i64 0) (u3:=.int .i64 0) (u4:=.int .i64 1) (by omega) y;rw[R9 (fun h=>h.2.1 Y.out)];exact bodyPost_ret (v:=.agg #[.slice none 0 0,.slice none 0 0,.int .i64 0,.int .i64 0,.int .i64 1]) (by simp[results,Tryz.results54,go_sem,b.1.1,b.2.1.1,b.2.2.1.1,b.2.2.2.1.1,b.2.2.2.2.1]) rfl ⟨_,_,rfl,d.1,d.2⟩
  ·have Y:=AR hF;obtain rfl:t=false:=BR j hF;clear j hF;obtain⟨⟨T,U⟩,⟨V,X⟩⟩:=F.out;obtain⟨⟨y0,y1⟩,⟨y2,y3⟩,⟨y4,y5⟩⟩:=H.out;go_wp2_with fail;refine(ZF _ _ _ _ p.n lo hi lo' hi' p.s s _ (Hp.out.1.A0 y) (Hs.out.A0 y)).mono ?_;rintro e w3 ⟨⟨t,rfl,j⟩,u⟩;rw[zCu D.out Y.out]at j;have A:=AR (F.out.A0 u);have I:=AR (H.out.A0 u);have k:=AR (C.out.A0 u);have m:=A7 y u;have jB:w.heap.size+3<=w3.heap.size:=(by have:=u.size;omega);clear u y F H C iB T U V X y0 y1 y2 y3 y4 y5;by_cases L:Bm p s
   ·have Z:=AR (And.intro D.out (And.intro Y.out L));obtain rfl:t=true:=j.2 L;clear j L;obtain⟨⟨T,U⟩,⟨V,X⟩⟩:=A.out;go_wp2_with fail;refine(zCj _ p.n lo hi p.s _ (Hp.out.1.A0 m)).mono ?_;rintro e w4 ⟨⟨i,Q,rfl⟩ | ⟨fB,rfl⟩,g⟩
    ·have N:=AR (A.out.A0 g);have O:=AR (I.out.A0 g);have l:=AR (k.out.A0 g);have z:=A7 m g;have dC:w.heap.size+3<=w4.heap.size:=(by have:=g.size;omega);have Hi:=AR Q;have vB:¬(i:Int)<0:=(by omega);clear g A I k m T U V X jB Q;obtain⟨⟨T,U⟩,⟨V,X⟩⟩:=N.out;obtain⟨⟨y0,y1⟩,⟨y2,y3⟩,⟨y4,y5⟩⟩:=O.out;obtain⟨⟨u0,u1⟩,⟨u2,u3⟩,⟨u4,u5⟩,⟨u6,u7⟩,⟨u8,u9⟩⟩:=l.out;have n0:w.heap.size+1+1≠w.heap.size:=(by omega);have n1:w.heap.size+1+1≠w.heap.size+1:=(by omega);go_wp2_with fail;go_region_held3 (fun w'=>w'.cell? ⟨w.heap.size,0,none⟩=some (.slice a p.n c)/\w'.cell? ⟨w.heap.size,1,none⟩=some (.slice a' p.hn c')/\w'.cell? ⟨w.heap.size+1,0,none⟩=some (.int .i64 s.birth)/\w'.cell? ⟨w.heap.size+1,1,none⟩=some (.slice ka s.kn kc)/\w'.cell? ⟨w.heap.size+1,2,none⟩=some (.string s.data)) (go_keep)
      (first
       | (go_at_call 119;refine(zC3 _ _ _ lo hi lo' hi' i p s _ ?_ ?_ Hi.out.1 Hn.out).mono ?_;(exact Hp.out.A0 z.drew);(exact Hs.out.A0 z.drew);rintro e w5 ⟨s0,s1,rfl,K,P⟩;obtain⟨a5,c5,a6,c6,rfl,rfl⟩:=K.form;have f:=Cr P;obtain⟨⟨p0,p1⟩,⟨p2,p3⟩⟩:=N.out.A0 f;obtain⟨⟨p4,p5⟩,⟨p6,p7⟩,⟨p8,p9⟩⟩:=O.out.A0 f;obtain⟨⟨r0,r1⟩,⟨r2,r3⟩,⟨r4,r5⟩,⟨r6,r7⟩,⟨r8,r9⟩⟩:=l.out.A0 f))
     have pA:Hid (Bo w5 w4.heap.size w5.heap.size (.slice a5 (Aq p i s).n c5) (.slice a6 (Aq p i s).hn c6) (Aq p i s)):=K;have oA:=AR (l.out.A0 f);have eB:=A7 z f;clear K P f;go_wp2;have x:=oA.out.put (.slice a5 (Aq p i s).n c5) (.slice a6 (Aq p i s).hn c6) (.int .i64 (i:Int)) (.int .i64 s.birth) (.int .i64 0);have d:=Nb (R:=w.heap.size+1+1) (u2:=.int .i64 (i:Int)) (u3:=.int .i64 s.birth) (u4:=.int .i64 0) pA.out (by omega) (by omega) (Nat.le_refl _) eB;rw[Ka Z.out Hi.out];exact bodyPost_ret (v:=.agg #[.slice a5 (Aq p i s).n c5,.slice a6 (Aq p i s).hn c6,.int .i64 (i:Int),.int .i64 s.birth,.int .i64 0]) (by simp[results,Tryz.results54,go_sem,x.1.1,x.2.1.1,x.2.2.1.1,x.2.2.2.1.1,x.2.2.2.2.1]) rfl ⟨_,_,rfl,d.1,d.2⟩
    ·have l:=AR (k.out.A0 g);have z:=A7 m g;clear g A I k m T U V X;obtain⟨⟨u0,u1⟩,⟨u2,u3⟩,⟨u4,u5⟩,⟨u6,u7⟩,⟨u8,u9⟩⟩:=l.out;go_wp2;have b:=l.out.put (.slice none 0 0) (.slice none 0 0) (.int .i64 0) (.int .i64 0) (.int .i64 6);have d:=Jh (R:=w.heap.size+1+1) (u2:=.int .i64 0) (u3:=.int .i64 0) (u4:=.int .i64 6) (by omega) z;rw[Kw Z.out fB];exact bodyPost_ret (v:=.agg #[.slice none 0 0,.slice none 0 0,.int .i64 0,.int .i64 0,.int .i64 6]) (by simp[results,Tryz.results54,go_sem,b.1.1,b.2.1.1,b.2.2.1.1,b.2.2.2.1.1,b.2.2.2.2.1]) rfl ⟨_,_,rfl,d.1,d.2⟩
   ·have Z:=AR L;obtain rfl:t=false:=BR j L;clear j L;obtain⟨⟨u0,u1⟩,⟨u2,u3⟩,⟨u4,u5⟩,⟨u6,u7⟩,⟨u8,u9⟩⟩:=k.out;go_wp2;have b:=k.out.put (.slice none 0 0) (.slice none 0 0) (.int .i64 0) (.int .i64 0) (.int .i64 1);have d:=Jh (R:=w.heap.size+1+1) (u2:=.int .i64 0) (u3:=.int .i64 0) (u4:=.int .i64 1) (by omega) m;rw[R9 (fun h=>Z.out h.2.2)];exact bodyPost_ret (v:=.agg #[.slice none 0 0,.slice none 0 0,.int .i64 0,.int .i64 0,.int .i64 1]) (by simp[results,Tryz.results54,go_sem,b.1.1,b.2.1.1,b.2.2.1.1,b.2.2.2.1.1,b.2.2.2.2.1]) rfl ⟨_,_,rfl,d.1,d.2⟩
 ·have D:=AR o;obtain rfl:t=false:=BR j o;clear j o;obtain⟨⟨u0,u1⟩,⟨u2,u3⟩,⟨u4,u5⟩,⟨u6,u7⟩,⟨u8,u9⟩⟩:=B.out;go_wp2;have b:=B.out.put (.slice none 0 0) (.slice none 0 0) (.int .i64 0) (.int .i64 0) (.int .i64 1);have d:=Jh (R:=w.heap.size+1+1) (u2:=.int .i64 0) (u3:=.int .i64 0) (u4:=.int .i64 1) (by omega) E;rw[R9 (fun h=>D.out h.1)];exact bodyPost_ret (v:=.agg #[.slice none 0 0,.slice none 0 0,.int .i64 0,.int .i64 0,.int .i64 1]) (by simp[results,Tryz.results54,go_sem,b.1.1,b.2.1.1,b.2.2.1.1,b.2.2.2.1.1,b.2.2.2.2.1]) rfl ⟨_,_,rfl,d.1,d.2⟩
def mix(f g:Nat->Int)(j:Nat):Int:=if j % 2=0 then f (j / 2)else g (j / 2)
theorem KL(f g:Nat->Int)(i:Nat):mix f g (i*2)=f i/\mix f g (i*2+1)=g i:=by
 unfold mix;rw[if_pos (by omega),if_neg (by omega),show i*2 / 2=i by omega,show(i*2+1) / 2=i by omega];exact⟨rfl,rfl⟩
def CO(f g:Nat->Int):Prop:=∀i,i<8->Nil (f i) (g i)
theorem Ue(f g:Nat->Int):Es (mix f g) (fun _=>0)=true↔CO f g:=by
 rw[Qc];constructor
 ·intro h i hi;have:=h i hi;rw[(KL f g i).1,(KL f g i).2]at this;exact this
 ·intro h i hi;rw[(KL f g i).1,(KL f g i).2];exact h i hi
def BJ(f g:Nat->Int)(b:Int):AG:={birth:=b,kn:=8,ks:=f,kb:=g,data:=⟨#[]⟩}
open Classical in
noncomputable def GP(p:A5)(f g:Nat->Int)(b:Int):Dm:=if CO f g then⟨p,0,0,0⟩else By p (BJ f g b)
theorem zHH(w:World)(a b:Value)(cs:Array Value)(c d e:TypeId) :
 Ac (((w.alloc (.cells #[a,b] c)).alloc (.cells cs d)).alloc (.cells #[.slice none 0 0,.slice none 0 0,.int .i64 0,.int .i64 0,.int .i64 0] e)) w.heap.size a b/\
 (((w.alloc (.cells #[a,b] c)).alloc (.cells cs d)).alloc (.cells #[.slice none 0 0,.slice none 0 0,.int .i64 0,.int .i64 0,.int .i64 0] e)).heap[w.heap.size+1]?=some (.cells cs d (0,0))/\
 Dp (((w.alloc (.cells #[a,b] c)).alloc (.cells cs d)).alloc (.cells #[.slice none 0 0,.slice none 0 0,.int .i64 0,.int .i64 0,.int .i64 0] e)) (w.heap.size+1+1) (.slice none 0 0) (.slice none 0 0) (.int .i64 0) (.int .i64 0) (.int .i64 0)/\
 Below w.heap.size w (((w.alloc (.cells #[a,b] c)).alloc (.cells cs d)).alloc (.cells #[.slice none 0 0,.slice none 0 0,.int .i64 0,.int .i64 0,.int .i64 0] e))/\
 (((w.alloc (.cells #[a,b] c)).alloc (.cells cs d)).alloc (.cells #[.slice none 0 0,.slice none 0 0,.int .i64 0,.int .i64 0,.int .i64 0] e)).heap.size=w.heap.size+3:=by
 refine⟨((Ac.new w a b c).A0 (AC _ _)).A0 (AC _ _),?_,?_,A7 (A7 (AC _ _) (AC _ _)) (AC _ _),by simp⟩
 ·exact(Yn w (.cells #[a,b] c) (.cells cs d) _).1
 ·have:=Dp.new ((w.alloc (.cells #[a,b] c)).alloc (.cells cs d)) (.slice none 0 0) (.slice none 0 0) (.int .i64 0) (.int .i64 0) (.int .i64 0) e;rw[World.size_alloc,World.size_alloc]at this;exact this
theorem zC1(v0 v1:Value)(lo hi:Nat)(p:A5)(f g:Nat->Int)(b:Int)(w:World)(U:C6 w lo hi v0 v1 p)(hn:An p+8<=1048576) :
 Calls Tryz.prog 120 #[.agg #[v0,v1],.agg (Aj (mix f g)),.int .i64 b] w (PX (GP p f g b) w):=by
 have Hp:=A9 U;obtain⟨a,c,a',c',rfl,rfl⟩:=U.form;have Hn:=A9 hn;clear U hn;have M:=zHH w (.slice a p.n c) (.slice a' p.hn c') (Aj (mix f g)) 26 108 104;have s:Hid ((Tryz.prog.info? 108).map (·.size)=some (Aj (mix f g)).size):=by
  show _=_;rw[Cy];exact GZ
 have oA:∀w,(binOp .eql 108 (.agg (Aj (mix f g))) (.agg #[Value.int .i64 0,Value.int .i64 0,Value.int .i64 0,Value.int .i64 0,Value.int .i64 0,Value.int .i64 0,Value.int .i64 0,Value.int .i64 0,Value.int .i64 0,Value.int .i64 0,Value.int .i64 0,Value.int .i64 0,Value.int .i64 0,Value.int .i64 0,Value.int .i64 0,Value.int .i64 0])).run Tryz.prog w = .ok (.bool (Es (mix f g) (fun _=>0))) w:=fun w=>Ps (mix f g) (fun _=>0) w
 go_enter Tryz.func120,Tryz.ntmps120;go_upto_region 1 with fail;generalize ((w.alloc (.cells #[.slice a p.n c,.slice a' p.hn c'] 26)).alloc (.cells (Aj (mix f g)) 108)).alloc (.cells #[.slice none 0 0,.slice none 0 0,.int .i64 0,.int .i64 0,.int .i64 0] 104)=W at M ⊢;obtain⟨V,hA,hR,l,hz⟩:=M;have Q:=A9 hA;have HB:=A9 V;have HR:=A9 hR;clear hA hR;obtain⟨⟨x0,x1⟩,⟨x2,x3⟩⟩:=HB.out;by_cases z:CO f g
 ·have S:=A9 z;have bA:=(Ue f g).2 z;clear z;go_wp2_with (first
   | (refine wpList_load_row rfl 108 (.tmp 4) rfl (w.heap.size+1) rfl 108 (Aj (mix f g)) (0,0) _ Q.out FI rfl s.out ?_)
   | fail)
  refine(P1 _ _ lo hi p W (Hp.out.A0 l) (by have:=Hn.out;omega)).mono ?_;rintro e w1 ⟨s0,s1,rfl,y,r⟩;obtain⟨C,c1,D,E,rfl,rfl⟩:=y.form;have T:=A9 y;have A:=A9 (HR.out.A0 r);have X:=A7 l r;have kB:=r.size;clear y r l x0 x1 x2 x3 V;obtain⟨⟨u0,u1⟩,⟨u2,u3⟩,⟨u4,u5⟩,⟨u6,u7⟩,⟨u8,u9⟩⟩:=A.out;go_wp2;have d:=A.out.put (.slice C p.n c1) (.slice D p.hn E) (.int .i64 0) (.int .i64 0) (.int .i64 0);have m:=Nb (R:=w.heap.size+1+1) (u2:=.int .i64 0) (u3:=.int .i64 0) (u4:=.int .i64 0) T.out (by omega) (by omega) (Nat.le_refl _) X;rw[show GP p f g b=⟨p,0,0,0⟩from if_pos S.out];exact bodyPost_ret (v:=.agg #[.slice C p.n c1,.slice D p.hn E,.int .i64 0,.int .i64 0,.int .i64 0]) (by simp[results,Tryz.results120,go_sem,d.1.1,d.2.1.1,d.2.2.1.1,d.2.2.2.1.1,d.2.2.2.2.1]) rfl ⟨_,_,rfl,m.1,m.2⟩
 ·have S:=A9 z;have bA:Es (mix f g) (fun _=>0)=false:=Bool.eq_false_iff.2 (fun h=>z ((Ue f g).1 h));clear z;have K:=zBP 39 38 (.agg #[.int .i64 0,.int .i64 0]) 2 16 (by kernel_rfl) zG7 rfl 8 (by omega) (by omega);have pA:∀w,(Instr.makeSlice 39 (.int .i64 8) (.int .i64 8)).run Tryz.prog w = .ok (.slice (some ⟨w.heap.size,0,none⟩) 8 8) (w.alloc (.cells (Fx #[.int .i64 0,.int .i64 0] 8) 38)):=K;clear K;have J:=AC W (.cells (Fx #[.int .i64 0,.int .i64 0] 8) 38);have I:=AC W (.cells (Aj (mix f g)) 38);have q:=A9 I;have F:(W.alloc (.cells (Fx #[.int .i64 0,.int .i64 0] 8) 38)).heap[w.heap.size+1]?=some (.cells (Aj (mix f g)) 108 (0,0)):=(J.block _ (by omega)).trans Q.out;have t:Hid (∀ty,(Builtin.copy_ #[39,39] ty #[.slice (some ⟨W.heap.size,0,none⟩) 8 8,.slice (some ⟨w.heap.size+1,0,none⟩) 8 8]).run Tryz.prog (W.alloc (.cells (Fx #[.int .i64 0,.int .i64 0] 8) 38)) = .ok (goInt 8) (W.alloc (.cells (Aj (mix f g)) 38))):=by
   intro ty;have N:(Fx #[.int .i64 0,.int .i64 0] 8).size=16:=(by kernel_rfl);have hr:=ZP (P:=Tryz.prog) (W.alloc (.cells (Fx #[.int .i64 0,.int .i64 0] 8) 38)) 39 39 ty 38 2 W.heap.size 0 8 8 ⟨w.heap.size+1,0,none⟩ 8 8 (Fx #[.int .i64 0,.int .i64 0] 8) 38 (Aj (mix f g)).toList (by kernel_rfl) Rf (heap_alloc_last _ _) (by simp[Aj]) (fun j v O=>by
    have u:j<16:=by
     have:=(List.getElem?_eq_some_iff.1 O).1;simpa[Cy]using this
    have e:(Aj (mix f g)).toList[j]?=some (.int .i64 (mix f g j)):=(by rw[Array.getElem?_toList];exact ED (mix f g) u);rw[e]at O;simp only[Option.some.injEq]at O;subst O;rw[add_lit,Nat.zero_add];exact(Au F (ED (mix f g) u)).1) (by rw[N];simp[Aj]) (fun v hv=>(Array.all_eq_true_iff_forall_mem.1 (IE _)) v (by simpa using hv))
   have e0:((Fx #[.int .i64 0,.int .i64 0] 8).toList.drop 16) = []:=List.drop_eq_nil_of_le (by simp[N]);have e1:((Fx #[.int .i64 0,.int .i64 0] 8).toList.take 0 ++ (Aj (mix f g)).toList ++ (Fx #[.int .i64 0,.int .i64 0] 8).toList.drop (0+(Aj (mix f g)).toList.length)).toArray=Aj (mix f g):=by
    have hl:(Aj (mix f g)).toList.length=16:=(by simp[Aj]);rw[hl,Nat.zero_add,e0];simp
   rw[e1,World.setRow_alloc_new]at hr;exact hr
  have Hz:=A9 hz;clear I F J hz;have Z:=t.out 3;obtain⟨⟨x4,x5⟩,⟨x6,x7⟩⟩:=HB.out.A0 q.out;go_wp2_with (first
   | (refine wpList_load_row rfl 108 (.tmp 4) rfl (w.heap.size+1) rfl 108 (Aj (mix f g)) (0,0) _ Q.out FI rfl s.out ?_)
   | fail)
  have HS:Hid (CQ (W.alloc (.cells (Aj (mix f g)) 38)) 0 (W.alloc (.cells (Aj (mix f g)) 38)).heap.size (.int .i64 (BJ f g b).birth) (.slice (some ⟨W.heap.size,0,none⟩) 8 8) (.string (BJ f g b).data) (BJ f g b)):=by
   refine⟨rfl,⟨by show 8<=maxLen;unfold maxLen;omega,_,8,rfl,Nat.le_refl _,fun _=>⟨W.heap.size,0,rfl,Nat.zero_le _,by simp,fun i hi=>?_⟩⟩,rfl,by show 0<=maxLen;omega⟩;have iB:i<8:=hi;have G:(W.alloc (.cells (Aj (mix f g)) 38)).heap[W.heap.size]?=some (.cells (Aj (mix f g)) 38):=heap_alloc_last _ _;have g1:=(Au G (ED (mix f g) (show i*2<16 by omega))).1;have g2:=(Au G (ED (mix f g) (show i*2+1<16 by omega))).1;rw[(KL f g i).1]at g1;rw[(KL f g i).2]at g2;rw[Nat.zero_add];exact⟨g1,g2⟩
  refine(Za _ _ _ lo hi 0 _ p (BJ f g b) _ (Hp.out.A0 (A7 l q.out)) HS.out (by show An p+(8+0)<=_;exact Hn.out)).mono ?_;rintro e w3 ⟨s0,s1,rfl,L,H⟩;have k:=A7 q.out H;have hz:=Hz.out;have B:=A9 (HR.out.A0 k);have Y:=A7 l k;have lB:=k.size;have He:Hid (GP p f g b=By p (BJ f g b)):=if_neg S.out;have x:Hid (Bo w3 W.heap.size w3.heap.size s0 s1 (By p (BJ f g b)).pool):=L.wide q.out.size (Nat.le_refl _);generalize By p (BJ f g b)=o at x He ⊢;obtain⟨C,c1,D,E,rfl,rfl⟩:=x.out.form;clear L H k x0 x1 x2 x3 x4 x5 x6 x7 V HS t Z;obtain⟨⟨u0,u1⟩,⟨u2,u3⟩,⟨u4,u5⟩,⟨u6,u7⟩,⟨u8,u9⟩⟩:=B.out;go_wp2;have d:=B.out.put (.slice C o.pool.n c1) (.slice D o.pool.hn E) (.int .i64 o.ps) (.int .i64 o.pb) (.int .i64 o.code);have m:=Nb (R:=w.heap.size+1+1) (u2:=.int .i64 o.ps) (u3:=.int .i64 o.pb) (u4:=.int .i64 o.code) x.out (by omega) (by omega) (Nat.le_refl _) Y;rw[He.out];exact bodyPost_ret (v:=.agg #[.slice C o.pool.n c1,.slice D o.pool.hn E,.int .i64 o.ps,.int .i64 o.pb,.int .i64 o.code]) (by simp[results,Tryz.results120,go_sem,d.1.1,d.2.1.1,d.2.2.1.1,d.2.2.2.1.1,d.2.2.2.2.1]) rfl ⟨_,_,rfl,m.1,m.2⟩
end Go.Proofs.YtehdoekmnicdiaaGreatDoor
