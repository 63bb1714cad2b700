/- What spec.l02Path answers in a right tree. -/
import Derived.Test.YtmgeglgboadfiaaGreatDoorT25
import Derived.Scope
import Derived.WalkMore
import Derived.Deep.MidRow
set_option linter.unusedVariables false
set_option maxRecDepth 20000
set_option maxHeartbeats 4000000
namespace Go.Proofs.YtmgeglgboadfiaaGreatDoor
open Go.RowKit
def zJ3(p:zJ)(xs xb:Int):Prop:=Nil xs xb\/(zr p xs xb/\(p.s xs.toNat).kn=8)
theorem zJx{p:zJ}{xs xb:Int}(h:ym p xs xb):zJ3 p xs xb:=by
 rcases h.2 with h2 | h2
 ·exact Or.inl h2
 ·right;refine⟨h2.1.1,?_⟩;rcases zDD h.1 h2.1.1 with h3 | h3
  ·have:=h2.1.2.1;omega
  ·exact h3
theorem zJ0{p:zJ}{xs xb:Int}(h:ym p xs xb){j:Nat}(hj:j<8):zJ3 p(yn p xs xb j)(zAF p xs xb j):=by
 by_cases hz:Nil xs xb
 ·left;unfold yn zAF;rw [if_pos hz,if_pos hz];exact⟨rfl,rfl⟩
 ·unfold yn zAF;rw [if_neg hz,if_neg hz];rcases(h.2.resolve_left hz).2.1.1 j hj with h2 | h2
  ·exact Or.inl h2
  ·right;refine⟨h2.1.1,?_⟩;rcases zDD h.1 h2.1.1 with h3 | h3
   ·have:=h2.1.2.1;omega
   ·exact h3
def qy(p:zJ)(xs xb:Int)(n:Nat):Int:=yn p xs xb(n / 8)
def yL(p:zJ)(xs xb:Int)(n:Nat):Int:=zAF p xs xb(n / 8)
def qo(p:zJ)(xs xb:Int)(n:Nat):Int:=yn p(qy p xs xb n)(yL p xs xb n)(n % 8)
def qp(p:zJ)(xs xb:Int)(n:Nat):Int:=zAF p(qy p xs xb n)(yL p xs xb n)(n % 8)
theorem zNH{p:zJ}{xs xb:Int}(h:ym p xs xb){n:Nat}(hn:n<64):Nil(qo p xs xb n)(qp p xs xb n)\/zD6 p(qo p xs xb n)(qp p xs xb n):=by
 by_cases hz:Nil xs xb
 ·left;have e:Nil(qy p xs xb n)(yL p xs xb n):=(by unfold qy yL yn zAF;rw [if_pos hz,if_pos hz];exact⟨rfl,rfl⟩);unfold qo qp yn zAF;rw [if_pos e,if_pos e];exact⟨rfl,rfl⟩
 ·have e1:qy p xs xb n=zb(p.s xs.toNat)(n / 8):=if_neg hz;have e2:yL p xs xb n=zu(p.s xs.toNat)(n / 8):=if_neg hz;by_cases aA:Nil(qy p xs xb n)(yL p xs xb n)
  ·left;unfold qo qp yn zAF;rw [if_pos aA,if_pos aA];exact⟨rfl,rfl⟩
  ·have e3:qo p xs xb n=zb(p.s(qy p xs xb n).toNat)(n % 8):=if_neg aA;have e4:qp p xs xb n=zu(p.s(qy p xs xb n).toNat)(n % 8):=if_neg aA;rw [e3,e4];rcases(h.2.resolve_left hz).2.1.1(n / 8)(by omega)with h2 | h2
   ·rw [<-e1,<-e2] at h2;exact absurd h2 aA
   ·have:=h2.2.1(n % 8)(by omega);rw [<-e1] at this;exact this
theorem zQh(w:World)(a0 a1 x0 x1:Value)(t1 t2:TypeId) :
  zc((((w.alloc(.cells #[a0,a1] t1)).alloc(.cells #[x0,x1] t2)).alloc(.cells #[.int .i64 0,.int .i64 0] t2)).alloc(.cells #[.int .i64 0,.int .i64 0] t2)) w.heap.size a0 a1/\
  zc((((w.alloc(.cells #[a0,a1] t1)).alloc(.cells #[x0,x1] t2)).alloc(.cells #[.int .i64 0,.int .i64 0] t2)).alloc(.cells #[.int .i64 0,.int .i64 0] t2))(w.heap.size+1) x0 x1/\
  zc((((w.alloc(.cells #[a0,a1] t1)).alloc(.cells #[x0,x1] t2)).alloc(.cells #[.int .i64 0,.int .i64 0] t2)).alloc(.cells #[.int .i64 0,.int .i64 0] t2))(w.heap.size+2)(.int .i64 0)(.int .i64 0)/\
  zc((((w.alloc(.cells #[a0,a1] t1)).alloc(.cells #[x0,x1] t2)).alloc(.cells #[.int .i64 0,.int .i64 0] t2)).alloc(.cells #[.int .i64 0,.int .i64 0] t2))(w.heap.size+2+1)(.int .i64 0)(.int .i64 0)/\
  Below w.heap.size w((((w.alloc(.cells #[a0,a1] t1)).alloc(.cells #[x0,x1] t2)).alloc(.cells #[.int .i64 0,.int .i64 0] t2)).alloc(.cells #[.int .i64 0,.int .i64 0] t2))/\
  ((((w.alloc(.cells #[a0,a1] t1)).alloc(.cells #[x0,x1] t2)).alloc(.cells #[.int .i64 0,.int .i64 0] t2)).alloc(.cells #[.int .i64 0,.int .i64 0] t2)).heap.size=w.heap.size+4:=by
 obtain⟨h1,h2,h3,h4⟩:=zBx w a0 a1 x0 x1 t1 t2;generalize(w.alloc(.cells #[a0,a1] t1)).alloc(.cells #[x0,x1] t2)=W at h1 h2 h3 h4 ⊢;have b1:=zC W(.cells #[.int .i64 0,.int .i64 0] t2);have b2:=zC(W.alloc(.cells #[.int .i64 0,.int .i64 0] t2))(.cells #[.int .i64 0,.int .i64 0] t2);have n1:=(zc.zRL W(.int .i64 0)(.int .i64 0) t2).zRJ b2;have n2:=zc.zRL(W.alloc(.cells #[.int .i64 0,.int .i64 0] t2))(.int .i64 0)(.int .i64 0) t2;rw [h4] at n1;rw [World.size_alloc,h4] at n2;exact⟨(h1.zRJ b1).zRJ b2,(h2.zRJ b1).zRJ b2,n1,n2,zA(zA h3 b1) b2,by rw [World.size_alloc,World.size_alloc,h4]⟩
theorem ql(w:World)(b:Nat)(u v:Value):zF(fun k=>k=b) w((w.setCell ⟨b,0,none⟩ u).setCell ⟨b,1,none⟩ v):=((zF.refl(fun k=>k=b) w).setCell(p:=⟨b,0,none⟩) rfl u).setCell(p:=⟨b,1,none⟩) rfl v
theorem zOj{w:World}{base g cp:Nat}{f h:Nat->Int}(hr:zw w base(.slice(some ⟨g,0,none⟩) 8 cp)(zBB f h 8)){i:Nat}(hi:i<8):w.cell? ⟨g,i*2,none⟩=some(.int .i64(f i))/\w.cell? ⟨g,i*2+1,none⟩=some(.int .i64(h i)):=by
 obtain⟨b,cap,e,_,_,_,hcell⟩:=qf hr(by rw [yG];omega);simp only [Value.slice.injEq,Option.some.injEq,Addr.mk.injEq,and_true] at e;obtain⟨rfl,_⟩:=e;have h1:=(hcell _ _(zBa(zBB f h 8) i(by rw [yG];exact hi)).1).1;have h2:=(hcell _ _(zBa(zBB f h 8) i(by rw [yG];exact hi)).2).1;have:=zKk f h hi;unfold zf zh at this;rw [this.1] at h1;rw [this.2] at h2;exact⟨h1,h2⟩
theorem zL1(v0 v1:Value)(lo hi:Nat)(p:zJ)(xs xb:Int)(n:Nat)(w:World)(h1:zy w lo hi v0 v1 p)(hT:ym p xs xb)(hn:n<64) :
  Calls Tryz.prog 83 #[.agg #[v0,v1],.agg #[.int .i64 xs,.int .i64 xb],.int .i64(n:Int)] w fun e w'=>e = .returned(.tuple #[.agg #[.int .i64(qo p xs xb n),.int .i64(qp p xs xb n)],.agg #[.int .i64(qy p xs xb n),.int .i64(yL p xs xb n)]])/\Below w.heap.size w w':=by
 have Hp:=zE h1;have HT:=zE hT;obtain⟨a,c,a',c',rfl,rfl⟩:∃a c a' c',v0 = .slice a p.n c/\v1 = .slice a' p.hn c':=by
  obtain⟨⟨_,a,c,h1,_⟩,⟨_,a',c',h3,_⟩⟩:=h1;exact⟨a,c,a',c',h1,h3⟩
 clear h1 hT;have fA:=zQh w(.slice a p.n c)(.slice a' p.hn c')(.int .i64 xs)(.int .i64 xb) 33 61;have hq:(n:Int).tdiv 8=((n / 8:Nat):Int):=(Int.ofNat_tdiv n 8).symm;have hr:(n:Int).tmod 8=((n % 8:Nat):Int):=(Int.ofNat_tmod n 8).symm;have rA:((n / 8:Nat):Int)<8:=by omega
 have nA:((n % 8:Nat):Int)<8:=by omega
 have sA:(n:Int)<64:=by omega
 have tA:0<=(n:Int) % 8:=by omega
 have oA:(n:Int) % 8<8:=by omega
 have pA:((n:Int) % 8).toNat=n % 8:=by omega
 go_enter Tryz.func83,Tryz.ntmps83;go_wp2_with fail;generalize((((w.alloc(.cells #[.slice a p.n c,.slice a' p.hn c'] 33)).alloc(.cells #[.int .i64 xs,.int .i64 xb] 61)).alloc(.cells #[.int .i64 0,.int .i64 0] 61)).alloc(.cells #[.int .i64 0,.int .i64 0] 61))=W0 at fA ⊢;obtain⟨hB,hX,hR1,hR2,hba,hz⟩:=fA;refine(zCx _ _ lo hi p xs xb W0(Hp.out.zRJ hba)(zJx HT.out)).mono ?_;rintro e w1 ⟨g,cp,rfl,hrow,hb1⟩;obtain⟨q0,q1⟩:=zOj hrow(show n / 8<8 by omega);have gA:=zC w1(.cells #[.int .i64(yn p xs xb(n / 8)),.int .i64(zAF p xs xb(n / 8))] 61);have hC:=zA hb1 gA;have cA:=zE(hB.zRJ hC);have jA:=zE(hR1.zRJ hC);have iA:=zE(hR2.zRJ hC);have bA:=zE(show zc(w1.alloc(.cells #[.int .i64(yn p xs xb(n / 8)),.int .i64(zAF p xs xb(n / 8))] 61)) w1.heap.size(.int .i64(qy p xs xb n))(.int .i64(yL p xs xb n))from zc.zRL w1 _ _ _);have dA:=zA hba hC;have mA:=zE(show zJ3 p(qy p xs xb n)(yL p xs xb n)from zJ0 HT.out(by omega));have kA:w.heap.size+4<=w1.heap.size:=by have:=hb1.size;omega
 clear hrow hb1 gA hC hB hX hR1 hR2 hba hz;have eA:w1.heap.size<(w1.alloc(.cells #[.int .i64(yn p xs xb(n / 8)),.int .i64(zAF p xs xb(n / 8))] 61)).heap.size:=by rw [World.size_alloc];omega
 go_wp2_with fail;generalize w1.alloc(.cells #[.int .i64(yn p xs xb(n / 8)),.int .i64(zAF p xs xb(n / 8))] 61)=W at cA jA iA bA dA eA ⊢;clear q0 q1;generalize w1.heap.size=X at bA kA eA ⊢;obtain⟨⟨x0,x1⟩,⟨x2,x3⟩⟩:=cA.out;obtain⟨⟨y0,y1⟩,⟨y2,y3⟩⟩:=bA.out;refine wp_region_held_drew(S:=(fun w'=>w'.cell? ⟨w.heap.size,0,none⟩=some(.slice a p.n c)/\w'.cell? ⟨w.heap.size,1,none⟩=some(.slice a' p.hn c')/\w'.cell? ⟨X,0,none⟩=some(.int .i64(qy p xs xb n))/\w'.cell? ⟨X,1,none⟩=some(.int .i64(yL p xs xb n))))(by kernel_rfl) ?_(fun hHeld=>?_)
 ·(try dsimp only)
  go_keep
 refine tk 0(h:=tk 1(h:=tk 3(h:=tk 4(h:=tk 7(h:=?_)))));refine rd [2](rc(fun K hK=>?_) .nil);go_simp;go_at_call 85;refine(zCx _ _ lo hi p(qy p xs xb n)(yL p xs xb n) _ ?_ mA.out).mono ?_
 ·first | exact Hp.out.zRJ dA | exact Hp.out.zRJ dA.drew
 rintro e wa ⟨g2,cp2,rfl,hrow2,hba⟩;have aA:Below W.heap.size W wa:=(by first | exact hba | exact zK hba);obtain⟨⟨k0,_⟩,⟨k1,_⟩⟩:=cA.out.zRJ aA;obtain⟨⟨k2,_⟩,⟨k3,_⟩⟩:=bA.out.zRJ aA;obtain⟨r0,r1⟩:=zOj hrow2(show n % 8<8 by omega);obtain⟨⟨l0,l1⟩,⟨l2,l3⟩⟩:zc wa(w.heap.size+1+1)(.int .i64 0)(.int .i64 0):=jA.out.zRJ aA;obtain⟨⟨m0,m1⟩,⟨m2,m3⟩⟩:zc wa(w.heap.size+1+1+1)(.int .i64 0)(.int .i64 0):=iA.out.zRJ aA
 (try go_wp2_with fail)
 refine hK.out _ _(by(try dsimp only);go_keep) ?_;clear hK K hHeld;intro hHeld
 try simp only [Act.put,s1,s2,s3]
 refine tk 5(h:=?_);refine rd [6](rc(fun K hK=>?_) .nil);go_simp
 (try go_wp2_with fail)
 refine hK.out _ _(by(try dsimp only);go_keep) ?_;clear hK K hHeld;intro hHeld
 try simp only [Act.put,s1,s2,s3]
 refine rd [8](rc(fun K hK=>?_) .nil);go_simp
 (try go_wp2_with fail)
 refine hK.out _ _(by(try dsimp only);exact⟨((cA.out.zRJ aA).zRR(ql _ _ _ _)(by omega)).1.1,((cA.out.zRJ aA).zRR(ql _ _ _ _)(by omega)).2.1,((bA.out.zRJ aA).zRR(ql _ _ _ _)(by omega)).1.1,((bA.out.zRJ aA).zRR(ql _ _ _ _)(by omega)).2.1⟩) ?_;clear hK K hHeld;intro hHeld
 try simp only [Act.put,s1,s2,s3]
 refine rd [9](rc(fun K hK=>?_) .nil);go_simp
 (try go_wp2_with fail)
 refine hK.out _ _(by(try dsimp only);exact⟨(((cA.out.zRJ aA).zRR(ql _ _ _ _)(by omega)).zRR(ql _ _ _ _)(by omega)).1.1,(((cA.out.zRJ aA).zRR(ql _ _ _ _)(by omega)).zRR(ql _ _ _ _)(by omega)).2.1,(((bA.out.zRJ aA).zRR(ql _ _ _ _)(by omega)).zRR(ql _ _ _ _)(by omega)).1.1,(((bA.out.zRJ aA).zRR(ql _ _ _ _)(by omega)).zRR(ql _ _ _ _)(by omega)).2.1⟩) ?_;clear hK K hHeld;intro hHeld
 try simp only [Act.put,s1,s2,s3]
 refine wpAnyH_done(by kernel_rfl) ?_ _;have lA:Below w.heap.size w wa:=zA dA aA;go_wp2;refine bodyPost_ret(v:=.tuple #[.agg #[.int .i64(qo p xs xb n),.int .i64(qp p xs xb n)],.agg #[.int .i64(qy p xs xb n),.int .i64(yL p xs xb n)]])(by simp [results,Tryz.results83,go_sem,l0,l2,m0,m2,qo,qp]) rfl ⟨rfl,?_⟩;exact(((lA.setCell(by show w.heap.size<=w.heap.size+1+1;omega) _).setCell(by show w.heap.size<=w.heap.size+1+1;omega) _).setCell(by show w.heap.size<=w.heap.size+1+1+1;omega) _).setCell(by show w.heap.size<=w.heap.size+1+1+1;omega) _
def hop(J:Nat->Act->World->Prop)(Q:Exit->Act->World->Prop):Exit->Act->World->Prop
 |.goto l,a,w=>J l a w
 |e,a,w=>Q e a w
def JU(P:Program)(c:Code)(Q:Exit->Act->World->Prop):Nat->Nat->Act->World->Prop
 |0,_,_,_=>False
 |n+1,l,a,w=>∃rest,findLabel c l=some rest/\rest.wp P(hop(JU P c Q n) Q) a w
theorem zIt{P:Program}{a:Act}{w:World}{Q:Exit->Act->World->Prop}{c:Code}(n:Nat)(cA:c.wp P(hop(JU P c Q n) Q) a w):(Code.scope c).wp P Q a w:=by
 intro b k cs;have key:∀n l bA a w,findLabel c l=some bA->bA.wp P(hop(JU P c Q n) Q) a w->∃e a' w',Q e a' w'/\Arrives P(lone(b.at a(.code bA :: .inScope c :: k)) cs w) b k cs e a' w':=by
  intro n
  induction n with
  |zero=>
   intro l bA a w hf hw;obtain⟨e,a₁,w₁,hq,harr⟩:=hw b(.inScope c :: k) cs;cases e with
   |normal=>exact⟨.normal,a₁,w₁,hq,Steps.trans harr(.one step_inScope)⟩
   |exit id=>exact⟨.exit id,a₁,w₁,hq,fun k' hk=>harr k'(by simp [exitTo,hk])⟩
   |goto l'=>exact False.elim hq
   |ret=>exact⟨_,a₁,w₁,hq,harr⟩
   |panic ch=>exact⟨_,a₁,w₁,hq,harr⟩
   |outgrown=>exact⟨_,a₁,w₁,hq,harr⟩
  |succ n ih=>
   intro l bA a w hf hw;obtain⟨e,a₁,w₁,hq,harr⟩:=hw b(.inScope c :: k) cs;cases e with
   |normal=>exact⟨.normal,a₁,w₁,hq,Steps.trans harr(.one step_inScope)⟩
   |exit id=>exact⟨.exit id,a₁,w₁,hq,fun k' hk=>harr k'(by simp [exitTo,hk])⟩
   |goto l'=>
    obtain⟨aA,hf',hw'⟩:=hq;obtain⟨e₂,a₂,w₂,hq₂,harr₂⟩:=ih l' aA a₁ w₁ hf' hw';have hg:gotoIn l'(.inScope c :: k)=some(.code aA :: .inScope c :: k):=(by simp [gotoIn,hf']);exact⟨e₂,a₂,w₂,hq₂,.of_steps(harr _ hg) harr₂⟩
   |ret=>exact⟨_,a₁,w₁,hq,harr⟩
   |panic ch=>exact⟨_,a₁,w₁,hq,harr⟩
   |outgrown=>exact⟨_,a₁,w₁,hq,harr⟩
 obtain⟨e,a₁,w₁,hq,harr⟩:=cA b(.inScope c :: k) cs;cases e with
 |normal=>exact⟨.normal,a₁,w₁,hq,.head step_scope(Steps.trans harr(.one step_inScope))⟩
 |exit id=>exact⟨.exit id,a₁,w₁,hq,fun k' hk=>.head step_scope(harr k'(by simp [exitTo,hk]))⟩
 |goto l'=>
  match n,hq with
  |n+1,hq=>
   obtain⟨aA,hf',hw'⟩:=hq;obtain⟨e₂,a₂,w₂,hq₂,harr₂⟩:=key n l' aA a₁ w₁ hf' hw';have hg:gotoIn l'(.inScope c :: k)=some(.code aA :: .inScope c :: k):=(by simp [gotoIn,hf']);exact⟨e₂,a₂,w₂,hq₂,.of_steps(.head step_scope(harr _ hg)) harr₂⟩
 |ret=>exact⟨_,a₁,w₁,hq,.of_steps(.one step_scope) harr⟩
 |panic ch=>exact⟨_,a₁,w₁,hq,.of_steps(.one step_scope) harr⟩
 |outgrown=>exact⟨_,a₁,w₁,hq,.of_steps(.one step_scope) harr⟩
def zOb:Array Value:=#[.int .i64 0,.int .i64 0,.int .i64 0,.int .i64 0,.int .i64 0,.int .i64 0,.int .i64 0,.int .i64 0,.int .i64 0,.int .i64 0,.int .i64 0,.int .i64 0,.int .i64 0,.int .i64 0,.int .i64 0,.int .i64 0,.int .i64 0,.int .i64 0,.int .i64 0,.int .i64 0,.int .i64 0,.int .i64 0,.int .i64 0,.int .i64 0,.int .i64 0,.int .i64 0,.int .i64 0,.int .i64 0,.int .i64 0,.int .i64 0,.int .i64 0,.int .i64 0,.int .i64 0,.int .i64 0,.int .i64 0,.int .i64 0,.int .i64 0,.int .i64 0,.int .i64 0,.int .i64 0,.slice none 0 0]
def zHj(n:Nat):Array Value:=#[.int .i64((n:Int) / 8),.int .i64((n:Int) % 8),.int .i64 0,.int .i64 0,.int .i64 0,.int .i64 0,.int .i64 0,.int .i64 0,.int .i64 0,.int .i64 0,.int .i64 0,.int .i64 0,.int .i64 0,.int .i64 0,.int .i64 0,.int .i64 0,.int .i64 0,.int .i64 0,.int .i64 0,.int .i64 0,.int .i64 0,.int .i64 0,.int .i64 0,.int .i64 0,.int .i64 0,.int .i64 0,.int .i64 0,.int .i64 0,.int .i64 0,.int .i64 0,.int .i64 0,.int .i64 0,.int .i64 0,.int .i64 0,.int .i64 0,.int .i64 0,.int .i64 0,.int .i64 0,.int .i64 0,.int .i64 0,.slice none 0 0]
theorem zKT:(Tryz.prog.info? 159).map(·.size)=some 41:=by kernel_rfl
theorem zPu(n:Nat):(Tryz.prog.info? 159).map(·.size)=some(zHj n).size:=zKT
theorem zPa(n:Nat):(zHj n).all(·.oneCell')=true:=by simp [zHj,Value.oneCell']
def yQ(w:World)(B:Nat)(f:Nat->Value):Prop:=∀i,i<41->zX w B i(f i)
theorem yQ.zRJ{w w':World}{B:Nat}{f:Nat->Value}(h:yQ w B f)(t:Below w.heap.size w w'):yQ w' B f:=fun i hi=>(h i hi).zRJ t
theorem yQ.zRR{S:Nat->Prop}{w w':World}{B:Nat}{f:Nat->Value}(h:yQ w B f)(t:zF S w w')(hs:¬S B):yQ w' B f:=fun i hi=>(h i hi).zRR t hs
theorem yQ.congr{w:World}{B:Nat}{f g:Nat->Value}(h:yQ w B f)(e:∀i,i<41->f i=g i):yQ w B g:=fun i hi=>e i hi▸h i hi
theorem yQ.put{w:World}{B:Nat}{f:Nat->Value}(h:yQ w B f)(o:Nat)(v:Value):yQ(w.setCell ⟨B,o,none⟩ v) B(fun i=>if i=o then v else f i):=fun i hi=>by
 show zX _ B i(if i=o then v else f i);by_cases e:i=o
 ·subst e;rw [if_pos rfl];exact(h i hi).set v
 ·rw [if_neg e];exact(h i hi).zRK v(Or.inr(fun h=>e h.symm))
theorem yQ.there{w:World}{B:Nat}{f:Nat->Value}(h:yQ w B f){o n:Nat}(hn:o+n<=41):w.there B o n:=fun j hj=>⟨by rw [(h(o+j)(by omega)).1];rfl,(h(o+j)(by omega)).2⟩
theorem yQ.range{w:World}{B:Nat}{f:Nat->Value}(h:yQ w B f):w.rangeAt B 0((List.range 41).map f):=fun j v hv=>by
 have hj:j<41:=by have:=(List.getElem?_eq_some_iff.1 hv).1;simpa using this
 rw [Nat.zero_add,(h j hj).1];simpa [hj] using hv
theorem yQ.puts{w:World}{B:Nat}{f:Nat->Value}(h:yQ w B f)(o:Nat)(vs:List Value)(hv:o+vs.length<=41):yQ(w.setCells B o vs) B(fun i=>if o<=i/\i<o+vs.length then vs.getD(i - o) undef else f i):=fun i hi=>by
 refine⟨?_,?_⟩
 ·show _=some(if o<=i/\i<o+vs.length then vs.getD(i - o) undef else f i);by_cases e:o<=i/\i<o+vs.length
  ·rw [if_pos e];have:=World.cell?_setCells_in B vs o w(fun j hj=>by rw [(h(o+j)(by omega)).1];rfl)(i - o)(by omega);rw [show o+(i - o)=i by omega] at this;rw [this,List.getD_eq_getElem?_getD,List.getElem?_eq_getElem(by omega),Option.getD_some]
  ·rw [if_neg e,World.cell?_setCells_out B vs o w ⟨B,i,none⟩(fun _ _=>by show i<o\/o+vs.length<=i;omega)];exact(h i hi).1
 ·rw [World.frozen?_setCells];exact(h i hi).2
def zAT(f:Nat->Value):Array Value:=((List.range 41).map f).toArray
theorem zEg(f:Nat->Value):(zAT f).size=41:=by simp [zAT]
theorem zDF(f:Nat->Value):(Tryz.prog.info? 159).map(·.size)=some(zAT f).size:=by rw [zEg];exact zKT
theorem zOf:(Tryz.prog.underlying 159).map(fun d=>d.isRow)=some true:=by kernel_rfl
def zQN(n:Nat)(i:Nat):Value:=if i=0 then .int .i64((n:Int) / 8)else if i=1 then .int .i64((n:Int) % 8)else if i=40 then .slice none 0 0 else .int .i64 0
theorem zP8(W:World)(n:Nat):yQ(W.alloc(.cells(zHj n) 159)) W.heap.size(zQN n):=fun i hi=>by
 refine zI(i:=i)(heap_alloc_new W(.cells(zHj n) 159)) ?_;have:zHj n=zAT(zQN n):=by rfl
 rw [this];simp [zAT,hi]
theorem zK0{J J':Nat->Act->World->Prop}{Q:Exit->Act->World->Prop}(h:∀l a w,J l a w->J' l a w):∀{e:Exit} {a:Act} {w:World},hop J Q e a w->hop J' Q e a w
 |.goto l,a,w,he=>h l a w he
 |.normal,_,_,he=>he
 |.exit _,_,_,he=>he
 |.ret,_,_,he=>he
 |.panic _,_,_,he=>he
 |.outgrown,_,_,he=>he
theorem zKf{P:Program}{a:Act}{w:World}{Q:Exit->Act->World->Prop}{c:Code}(R:Nat->Nat->Act->World->Prop)(n:Nat)(zero:∀l a w,¬R 0 l a w)
  (step:∀n l a w,R(n+1) l a w->∃aA,findLabel c l=some(Code.skip.seq aA)/\aA.wp P(hop(R n) Q) a w)
  (bA:(∀l a w aA,findLabel c l=some(Code.skip.seq aA)->R(n+1) l a w->aA.wp P(hop(R n) Q) a w)->c.wp P(hop(R n) Q) a w):(Code.scope c).wp P Q a w:=by
 have key:∀n l a w,R n l a w->JU P c Q n l a w:=by
  intro n
  induction n with
  |zero=>intro l a w h;exact absurd h(zero l a w)
  |succ n ih=>
   intro l a w h;obtain⟨aA,hf,hw⟩:=step n l a w h;exact⟨_,hf,Code.wp_mono(fun e a w he=>zK0 ih he)(wp_seq(wp_skip hw))⟩
 refine zIt n(Code.wp_mono(fun e a w he=>zK0(key n) he)(bA ?_));intro l a w aA hf hR;obtain⟨cA,hf',hw⟩:=step n l a w hR;rw [hf] at hf';simp only [Option.some.injEq,Code.seq.injEq,true_and] at hf';rw [hf'];exact hw
def qq(p:zJ)(xs xb:Int)(n L:Nat):Int:=if L=0 then xs else if L=1 then qy p xs xb n else qo p xs xb n
def yR(p:zJ)(xs xb:Int)(n L:Nat):Int:=if L=0 then xb else if L=1 then yL p xs xb n else qp p xs xb n
def plc(n L:Nat):Nat:=if L=0 then n / 8 else n % 8
def zB8(p:zJ)(xs xb:Int)(n L j:Nat):Int:=if Nil(qq p xs xb n L)(yR p xs xb n L)then 0 else zk(p.s(qq p xs xb n L).toNat) j
theorem zDI(p:zJ)(xs xb:Int)(n:Nat){L:Nat}(h:L<2):qq p xs xb n(L+1)=zB8 p xs xb n L(plc n L*2)/\yR p xs xb n(L+1)=zB8 p xs xb n L(plc n L*2+1):=by
 rcases L with _ | _ | L
 ·exact⟨rfl,rfl⟩
 ·exact⟨rfl,rfl⟩
 ·omega
theorem zIb{n L:Nat}(h:n<64):plc n L<8:=by unfold plc;split<;>omega
theorem zEY{p:zJ}{xs xb:Int}{n L:Nat}(h:Nil(qq p xs xb n L)(yR p xs xb n L))(hL:L<2):Nil(qq p xs xb n(L+1))(yR p xs xb n(L+1)):=by
 rw [(zDI p xs xb n hL).1,(zDI p xs xb n hL).2];unfold zB8;rw [if_pos h,if_pos h];exact⟨rfl,rfl⟩
theorem zQo{p:zJ}{xs xb:Int}{n L:Nat}(h:ym p xs xb)(hn:n<64)(hL:L<2):zJ3 p(qq p xs xb n L)(yR p xs xb n L):=by
 rcases L with _ | _ | L
 ·exact zJx h
 ·exact zJ0 h(by omega)
 ·omega
def yI(p:zJ)(xs xb:Int)(n K M:Nat)(o:Value)(i:Nat):Value:=
 if i<2 then .int .i64(plc n i:Nat)
 else if i<34 then .int .i64(if(i - 2) / 16<K then zB8 p xs xb n((i - 2) / 16)((i - 2) % 16)else 0)
 else if i<40 then .int .i64(if(i - 34) / 2<M then(if(i - 34) % 2=0 then qq p xs xb n((i - 34) / 2)else yR p xs xb n((i - 34) / 2))else 0)
 else o
theorem zPX(p:zJ)(xs xb:Int)(n:Nat){i:Nat}(hi:i<41):zQN n i=yI p xs xb n 0 0(.slice none 0 0) i:=by
 unfold zQN yI;by_cases h0:i=0
 ·subst h0;rfl
 by_cases h1:i=1
 ·subst h1;rfl
 rw [if_neg h0,if_neg h1,if_neg(show ¬i<2 by omega)];by_cases h2:i=40
 ·subst h2;rfl
 rw [if_neg h2];by_cases h3:i<34
 ·rw [if_pos h3,if_neg(Nat.not_lt_zero _)]
 ·rw [if_neg h3,if_pos(by omega),if_neg(Nat.not_lt_zero _)]
theorem zQK{p:zJ}{xs xb:Int}{n K L:Nat}{o:Value}{w:World}{B:Nat}(hL:L<3)(h:yQ w B(yI p xs xb n K L o)) :
  yQ((w.setCell ⟨B,34+L*2,none⟩(.int .i64(qq p xs xb n L))).setCell ⟨B,34+L*2+1,none⟩(.int .i64(yR p xs xb n L))) B(yI p xs xb n K(L+1) o):=by
 refine((h.put _ _).put _ _).congr fun i hi=>?_
 show(if i=34+L*2+1 then _ else if i=34+L*2 then _ else _)=_;by_cases h1:i=34+L*2+1
 ·subst h1;rw [if_pos rfl];unfold yI;rw [if_neg(by omega),if_neg(by omega),if_pos(by omega),show(34+L*2+1 - 34) / 2=L by omega,show(34+L*2+1 - 34) % 2=1 by omega,if_pos(by omega),if_neg(by omega)]
 rw [if_neg h1];by_cases h2:i=34+L*2
 ·subst h2;rw [if_pos rfl];unfold yI;rw [if_neg(by omega),if_neg(by omega),if_pos(by omega),show(34+L*2 - 34) / 2=L by omega,show(34+L*2 - 34) % 2=0 by omega,if_pos(by omega),if_pos rfl]
 rw [if_neg h2];unfold yI;by_cases h3:i<2
 ·rw [if_pos h3,if_pos h3]
 by_cases h4:i<34
 ·rw [if_neg h3,if_neg h3,if_pos h4,if_pos h4]
 rw [if_neg h3,if_neg h3,if_neg h4,if_neg h4];by_cases h5:i<40
 ·rw [if_pos h5,if_pos h5];by_cases h6:(i - 34) / 2<L
  ·rw [if_pos h6,if_pos(show(i - 34) / 2<L+1 by omega)]
  ·rw [if_neg h6,if_neg(by omega)]
 ·rw [if_neg h5,if_neg h5]
theorem zOo{p:zJ}{xs xb:Int}{n L M:Nat}{o:Value}{w:World}{B:Nat}(hL:L<2)(h:yQ w B(yI p xs xb n L M o))(hN:¬Nil(qq p xs xb n L)(yR p xs xb n L)) :
  yQ(w.setCells B(2+L*16)(qD(p.s(qq p xs xb n L).toNat)).toList) B(yI p xs xb n(L+1) M o):=by
 have aA:(qD(p.s(qq p xs xb n L).toNat)).toList.length=16:=by simp [qD,qB]
 refine(h.puts(2+L*16) _(by omega)).congr fun i hi=>?_
 show(if 2+L*16<=i/\i<2+L*16+_ then _ else _)=_;rw [aA];by_cases h1:2+L*16<=i/\i<2+L*16+16
 ·rw [if_pos h1];have hj:i - (2+L*16)<16:=(by omega);have e:(qD(p.s(qq p xs xb n L).toNat)).toList.getD(i - (2+L*16)) undef = .int .i64(zk(p.s(qq p xs xb n L).toNat)(i - (2+L*16))):=by
   rw [List.getD_eq_getElem?_getD,Array.getElem?_toList];have:=yO(zk(p.s(qq p xs xb n L).toNat)) hj;rw [show qD(p.s(qq p xs xb n L).toNat)=zp(zk(p.s(qq p xs xb n L).toNat))from rfl,this];rfl
  rw [e];unfold yI zB8;rw [if_neg(by omega),if_pos(by omega),show(i - 2) / 16=L by omega,if_pos(by omega),if_neg hN,show(i - 2) % 16=i - (2+L*16)by omega]
 ·rw [if_neg h1];unfold yI;by_cases h3:i<2
  ·rw [if_pos h3,if_pos h3]
  rw [if_neg h3,if_neg h3];by_cases h4:i<34
  ·rw [if_pos h4,if_pos h4];by_cases h6:(i - 2) / 16<L
   ·rw [if_pos h6,if_pos(by omega)]
   ·rw [if_neg h6,if_neg(by omega)]
  ·rw [if_neg h4,if_neg h4]
theorem zNP{p:zJ}{xs xb:Int}{n L:Nat}{o:Value}{w:World}{B:Nat}(hL:L<3)(h:yQ w B(yI p xs xb n L(L+1) o))(hN:L<2->Nil(qq p xs xb n L)(yR p xs xb n L)):yQ w B(yI p xs xb n 2 3 o):=by
 refine h.congr fun i hi=>?_
 have hz:∀K,L<=K->K<3->L<2->Nil(qq p xs xb n K)(yR p xs xb n K):=fun K h1 h2 h3=>by
  have n0:=hN h3;by_cases e:K=L
  ·subst e;exact n0
  have n1:=zEY n0 h3;by_cases e1:K=L+1
  ·subst e1;exact n1
  have n2:=zEY n1(by omega);rw [show K=L+1+1 by omega];exact n2
 unfold yI;by_cases h3:i<2
 ·rw [if_pos h3,if_pos h3]
 rw [if_neg h3,if_neg h3];by_cases h4:i<34
 ·rw [if_pos h4,if_pos h4];by_cases h6:(i - 2) / 16<L
  ·rw [if_pos h6,if_pos(by omega)]
  ·rw [if_neg h6,if_pos(by omega)];unfold zB8;rw [if_pos(hz _(by omega)(by omega)(by omega))]
 ·rw [if_neg h4,if_neg h4];by_cases h5:i<40
  ·rw [if_pos h5,if_pos h5];by_cases h6:(i - 34) / 2<L+1
   ·rw [if_pos h6,if_pos(show(i - 34) / 2<3 by omega)]
   ·rw [if_neg h6,if_pos(show(i - 34) / 2<3 by omega)];have:=hz((i - 34) / 2)(by omega)(by omega)(by omega);split
    ·rw [this.1]
    ·rw [this.2]
  ·rw [if_neg h5,if_neg h5]
theorem zQQ{p:zJ}{xs xb:Int}{n K M:Nat}{o:Value}{w:World}{B:Nat}(o':Value)(h:yQ w B(yI p xs xb n K M o)):yQ(w.setCell ⟨B,40,none⟩ o') B(yI p xs xb n K M o'):=by
 refine(h.put _ _).congr fun i hi=>?_
 show(if i=40 then _ else _)=_;by_cases e:i=40
 ·subst e;rfl
 ·rw [if_neg e];unfold yI;by_cases h3:i<2
  ·rw [if_pos h3,if_pos h3]
  rw [if_neg h3,if_neg h3];by_cases h4:i<34
  ·rw [if_pos h4,if_pos h4]
  ·rw [if_neg h4,if_neg h4,if_pos(show i<40 by omega),if_pos(show i<40 by omega)]
def qe(p:zJ)(xs xb:Int)(n k:Nat):List(Int×Int):=kidsUp(fun i=>qq p xs xb n(2 - i))(fun i=>yR p xs xb n(2 - i)) k
theorem zNo{dA:Array Oper}{o:Oper}{a:Act}{w:World}{K:Act->World->Prop}{Q:Exit->Act->World->Prop}{E:Prop}(eA:o.guard=none)(s x:Operand)
  (ho:o.op = .call {callee:=.builtin .append,args:=#[s,x],argTypes:=#[62,62]})(base bA:Nat)(v:Value)(l:List(Int×Int))(hs:a.eval s=v)(aA:zw w base v l)
  (ao:Option Addr)(m c:Nat)(l2:List(Int×Int))(hx:a.eval x = .slice ao m c)(hm:m=l2.length)(h2:zw w bA(.slice ao m c) l2)(gA:l.length+l2.length<=1000)(cA:base<=w.heap.size)
  (h:∀v' w',zw w' base v'(l ++ l2)->w.grownBy w' v.ownBlock->K(a.put o.dst v') w'):if Region.wanted o(yielded dA a.tmps)=true then Oper.wp Tryz.prog o a w K Q else E:=by
 have hw:Region.wanted o(yielded dA a.tmps)=true:=by simp [Region.wanted,eA]
 rw [if_pos hw];obtain⟨i0,hi0,hz0,hz1,hz2⟩:∃i,Tryz.prog.info? 61=some i/\i.zero=some(.agg #[.int .i64 0,.int .i64 0])/\i.size=2/\i.bytes=16:=by
  obtain⟨i0,hi0,hzz⟩:=Option.map_eq_some_iff.1 zA1;simp only [Prod.mk.injEq] at hzz;exact⟨i0,hi0,hzz⟩
 have ht:Tryz.prog.underlying 62=some(.slice 61):=by kernel_rfl
 by_cases h0:0<l2.length
 ·obtain⟨b,cap,e,_,_,_,hcell⟩:=qf h2 h0;simp only [Value.slice.injEq] at e;obtain⟨rfl,_,_⟩:=e;obtain⟨v',w',hr,r1,r2,_⟩:=run_append_own(P:=Tryz.prog) w base 62 o.type 61 i0(.agg #[.int .i64 0,.int .i64 0]) 2 16 ht hi0 hz0 hz1 hz2 rfl(by decide) v l.length(pcl l) aA ⟨b,0,none⟩ m c(pcl l2)(by rw [zA5,hm])(fun j u hj=>by rw [add_lit,Nat.zero_add];exact(hcell j u hj).1)(zF4 l2)(by rw [hm];unfold maxLen;omega)(by rw [hm];omega) cA;unfold Oper.wp;simp [execOp,ho,resolve,invoke,builtin,hs,hx,hr,Result.andThen];refine h v' w' ?_ r2;unfold zw;rw [zA9,List.length_append,<-hm];exact r1
 ·have e0:l2 = []:=List.eq_nil_of_length_eq_zero(by omega);subst e0;have fA:m=0:=hm;subst fA;have hr:=zA3(P:=Tryz.prog)(w:=w) base 62 o.type 61 i0 2 c ao ht hi0 v l.length(pcl l) aA;unfold Oper.wp;simp [execOp,ho,resolve,invoke,builtin,hs,hx,hr,Result.andThen];exact h v w(by rw [List.append_nil];exact aA) ⟨rfl,rfl,rfl,Nat.le_refl _,fun _ _ _=>rfl⟩
theorem zDR{v:Value}{xs xb:Int}{n z B X L:Nat}(a:Act)(h:a = {tmps:=#[v,.agg #[.int .i64 xs,.int .i64 xb],.int .i64(n:Int),a.tmps.getD 3 undef,.pointer(some ⟨z,0,none⟩),a.tmps.getD 5 undef,.pointer(some ⟨z+1,0,none⟩),.pointer(some ⟨B,0,none⟩),.pointer(some ⟨X,0,none⟩),.int .i64(L:Int),a.tmps.getD 10 undef,a.tmps.getD 11 undef,a.tmps.getD 12 undef,a.tmps.getD 13 undef,a.tmps.getD 14 undef,a.tmps.getD 15 undef,a.tmps.getD 16 undef,a.tmps.getD 17 undef,a.tmps.getD 18 undef,a.tmps.getD 19 undef,a.tmps.getD 20 undef,a.tmps.getD 21 undef,a.tmps.getD 22 undef,a.tmps.getD 23 undef,a.tmps.getD 24 undef,a.tmps.getD 25 undef,a.tmps.getD 26 undef,a.tmps.getD 27 undef,a.tmps.getD 28 undef,a.tmps.getD 29 undef,a.tmps.getD 30 undef,a.tmps.getD 31 undef,a.tmps.getD 32 undef,a.tmps.getD 33 undef,a.tmps.getD 34 undef,a.tmps.getD 35 undef,a.tmps.getD 36 undef,a.tmps.getD 37 undef,a.tmps.getD 38 undef,a.tmps.getD 39 undef,a.tmps.getD 40 undef,a.tmps.getD 41 undef,a.tmps.getD 42 undef,a.tmps.getD 43 undef,a.tmps.getD 44 undef,a.tmps.getD 45 undef,a.tmps.getD 46 undef,a.tmps.getD 47 undef,a.tmps.getD 48 undef,a.tmps.getD 49 undef,a.tmps.getD 50 undef,a.tmps.getD 51 undef,a.tmps.getD 52 undef,a.tmps.getD 53 undef,a.tmps.getD 54 undef,a.tmps.getD 55 undef,a.tmps.getD 56 undef,a.tmps.getD 57 undef,a.tmps.getD 58 undef,a.tmps.getD 59 undef,a.tmps.getD 60 undef,a.tmps.getD 61 undef,a.tmps.getD 62 undef,a.tmps.getD 63 undef,a.tmps.getD 64 undef,a.tmps.getD 65 undef,a.tmps.getD 66 undef,a.tmps.getD 67 undef],defers:=[]}):∃j:Nat->Value,a = {tmps:=#[v,.agg #[.int .i64 xs,.int .i64 xb],.int .i64(n:Int),j 3,.pointer(some ⟨z,0,none⟩),j 5,.pointer(some ⟨z+1,0,none⟩),.pointer(some ⟨B,0,none⟩),.pointer(some ⟨X,0,none⟩),.int .i64(L:Int),j 10,j 11,j 12,j 13,j 14,j 15,j 16,j 17,j 18,j 19,j 20,j 21,j 22,j 23,j 24,j 25,j 26,j 27,j 28,j 29,j 30,j 31,j 32,j 33,j 34,j 35,j 36,j 37,j 38,j 39,j 40,j 41,j 42,j 43,j 44,j 45,j 46,j 47,j 48,j 49,j 50,j 51,j 52,j 53,j 54,j 55,j 56,j 57,j 58,j 59,j 60,j 61,j 62,j 63,j 64,j 65,j 66,j 67],defers:=[]}:=⟨fun i=>a.tmps.getD i undef,h⟩
def zRF(p:zJ)(v:Value)(xs xb:Int)(n:Nat)(w0:World)(z:Nat)(k l:Nat)(a:Act)(w:World):Prop:=
  ∃B X L:Nat,(∃j:Nat->Value,a = {tmps:=#[v,.agg #[.int .i64 xs,.int .i64 xb],.int .i64(n:Int),j 3,.pointer(some ⟨z,0,none⟩),j 5,.pointer(some ⟨z+1,0,none⟩),.pointer(some ⟨B,0,none⟩),.pointer(some ⟨X,0,none⟩),.int .i64(L:Int),j 10,j 11,j 12,j 13,j 14,j 15,j 16,j 17,j 18,j 19,j 20,j 21,j 22,j 23,j 24,j 25,j 26,j 27,j 28,j 29,j 30,j 31,j 32,j 33,j 34,j 35,j 36,j 37,j 38,j 39,j 40,j 41,j 42,j 43,j 44,j 45,j 46,j 47,j 48,j 49,j 50,j 51,j 52,j 53,j 54,j 55,j 56,j 57,j 58,j 59,j 60,j 61,j 62,j 63,j 64,j 65,j 66,j 67],defers:=[]})/\L<3/\z+1<B/\B<X/\X<w.heap.size/\Below z w0 w/\w.heap[z+1]?=some(.cells zOb 159(0,0))/\
    ((l=0/\7<=k+L/\yQ w B(yI p xs xb n L L(.slice none 0 0))/\zc w X(.int .i64(qq p xs xb n L))(.int .i64(yR p xs xb n L)))\/
     (l=1/\L<k/\∃o,yQ w B(yI p xs xb n 2 3 o)/\zw w(X+1) o(qe p xs xb n(2 - L))))
theorem zDu(B:Nat):∀(vs:List Value)(o:Nat)(w:World),zF(fun k=>k=B) w(w.setCells B o vs)
  |[],_,w=>zF.refl _ w
  |v :: vs,o,w=>((zF.refl(fun k=>k=B) w).setCell(p:=⟨B,o,none⟩) rfl v).trans(zDu B vs(o+1) _)
theorem zIA(p:zJ)(xs xb:Int)(n K M:Nat)(o:Value){L:Nat}(hL:L<2):yI p xs xb n K M o L = .int .i64(plc n L:Nat):=by
  unfold yI;rw [if_pos hL]
theorem zLQ(p:zJ)(xs xb:Int)(n M:Nat)(o:Value){L j:Nat}(hL:L<2)(hj:j<16):yI p xs xb n(L+1) M o(2+L*16+j) = .int .i64(zB8 p xs xb n L j):=by
  unfold yI;rw [if_neg(by omega),if_pos(by omega),show(2+L*16+j - 2) / 16=L by omega,show(2+L*16+j - 2) % 16=j by omega,if_pos(by omega)]
theorem zL0(p:zJ)(xs xb:Int)(n K:Nat)(o:Value){L:Nat}(hL:L<3):yI p xs xb n K 3 o(34+L*2) = .int .i64(qq p xs xb n L)/\yI p xs xb n K 3 o(34+L*2+1) = .int .i64(yR p xs xb n L):=by
  refine⟨?_,?_⟩
  · unfold yI
    rw [if_neg(by omega),if_neg(by omega),if_pos(by omega),show(34+L*2 - 34) / 2=L by omega,show(34+L*2 - 34) % 2=0 by omega,if_pos(by omega),if_pos rfl]
  · unfold yI
    rw [if_neg(by omega),if_neg(by omega),if_pos(by omega),show(34+L*2+1 - 34) / 2=L by omega,show(34+L*2+1 - 34) % 2=1 by omega,if_pos(by omega),if_neg(by omega)]
theorem zPM(p:zJ)(xs xb:Int)(n K M:Nat)(o:Value):yI p xs xb n K M o 40=o:=rfl
theorem zO6{p:zJ}{xs xb:Int}{n L:Nat}(hN:L<2->Nil(qq p xs xb n L)(yR p xs xb n L))(hL:L<3):qe p xs xb n(2 - L) = []:=by
  unfold qe;rcases L with _ | _ | L
  · have h0:=hN(by omega)
    have h1:=zEY h0(by omega);have h2:=zEY h1(by omega);show([] ++ one(qq p xs xb n 2)(yR p xs xb n 2)) ++ one(qq p xs xb n 1)(yR p xs xb n 1) = [];unfold one;rw [if_pos h2,if_pos h1];rfl
  · have h0:=hN(by omega)
    have h1:=zEY h0(by omega);show [] ++ one(qq p xs xb n 2)(yR p xs xb n 2) = [];unfold one;rw [if_pos h1];rfl
  · obtain rfl:L=0:=by omega
    rfl
theorem zLj(p:zJ)(xs xb:Int)(n:Nat){L:Nat}(hL:L<3):qe p xs xb n(2 - L+1)=qe p xs xb n(2 - L) ++ one(qq p xs xb n L)(yR p xs xb n L):=by
  show qe p xs xb n(2 - L) ++ one(qq p xs xb n(2 - (2 - L)))(yR p xs xb n(2 - (2 - L)))=_;rw [show 2 - (2 - L)=L by omega]
theorem zMv(p:zJ)(xs xb:Int)(n k:Nat):(qe p xs xb n k).length<=k:=zAh _ _ k
theorem zIC(p:zJ)(xs xb:Int)(n K M:Nat){o:Value}(ho:o.oneCell'=true):(zAT(yI p xs xb n K M o)).all(·.oneCell')=true:=by
  unfold zAT;rw [Array.all_eq_true_iff_forall_mem];intro v hv;simp at hv;obtain⟨i,_,rfl⟩:=hv;unfold yI;split
  · rfl
  split
  · rfl
  split
  · rfl
  · exact ho
theorem zw.one{w:World}{base:Nat}{v:Value}{l:List(Int×Int)}(h:zw w base v l):v.oneCell'=true:=by
  obtain⟨a,c,rfl,_⟩:=zW h;rfl
theorem zw.setRow{w:World}{base g:Nat}{v:Value}{l:List(Int×Int)}(h:zw w base v l)(hb:g<base)(cs:Array Value):zw(w.setRow g cs) base v l:=by
  have t:=zF.setRow w g cs;exact h.zRR(row:=some g) ⟨t.os,t.tape,t.output,t.size,fun k hk aA=>t.block k hk(fun e=>aA(by rw [e]))⟩(fun q hq=>by
    have:=(h.lt hq).1;simp only [ne_eq,Option.some.injEq];omega)
theorem zLY(f:Nat->Value):(Tryz.prog.info? 159).map(·.size)=some((List.range 41).map f).length:=by
  rw [zKT];simp
end Go.Proofs.YtmgeglgboadfiaaGreatDoor
