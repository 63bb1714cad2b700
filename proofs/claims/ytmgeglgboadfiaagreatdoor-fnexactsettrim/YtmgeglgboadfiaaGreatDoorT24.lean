/- What impl.SetTrim answers, over what its deed leaves. -/
import Derived.Test.YtmgeglgboadfiaaGreatDoorT23
import Derived.Deep.RegionLawGrows
set_option linter.unusedVariables false
set_option maxRecDepth 20000
set_option maxHeartbeats 4000000
namespace Go.Proofs.YtmgeglgboadfiaaGreatDoor
open Go.RowKit
theorem zEA(p:Nat->Addr)(v0 v1 v2 v3:Value)(lo hi:Nat)(W:zH)(name:ByteArray)(zRV:Int)(o:zBz)(w:World)(hE:zEt w p)(h:zl w lo hi v0 v1 v2 v3 W)(lB:zCJ W)(b1:qE W.zRQ<=1048576)(b2:W.sn<=1048576)(b3:W.pn<=1048576)(b4:zDf W)(fA:name.size<=maxLen)(gA:(Lit.int .i64 zRV).wf=true)
  (dB:∀B0 B1 C w' z0 z1 z2 z3,w'.cell? ⟨B0,0,none⟩=some(.string name)->B0<C->w'.cell? ⟨B1,0,none⟩=some(.int .i64 zRV)->B1<C->zAt W->¬(∃i,i<1/\8000<((fun(_:Nat)=>name) i).size)->¬(∃i,i<0/\¬yM((fun _=>⟨#[]⟩) i))->(∀j,j<1->(fun i=>match i with  | _=>zAP W name) j)->C<w'.heap.size->Below w.heap.size w w'->qR w'(C+1) w'.heap.size z0 z1 z2 z3 W->yq w' C z0 z1(.int .i64 W.time)(.int .i64 W.next) z2 z3(.int .i64 0)(.int .i64 0) .nilIface->Calls Tryz.prog 47 #[.pointer(some ⟨C,0,none⟩),.pointer(some ⟨B0,0,none⟩),.pointer(some ⟨B1,0,none⟩)] w'(zLI p o C w')) :
  Calls Tryz.prog 17 #[zz v0 v1 v2 v3 W,.string name,.int .i64 zRV] w fun e w'=>∃r,zIH W(∃i,i<1/\8000<((fun(_:Nat)=>name) i).size)(∃i,i<0/\¬yM((fun _=>⟨#[]⟩) i)) 1(fun i=>match i with  | _=>zAP W name)(fun i=>match i with  | _=>2) r/\zBp(zMf r o) w e w':=by
 have Hp:=zd h;have HE:=zd hE;have aC:=zd dB;have tB:=zd lB;have dA:=zd fA;have oA:=zd gA;clear gA;clear h hE dB lB;have gB:=zC w(.cells #[v0,v1,.int .i64 W.time,.int .i64 W.next,v2,v3] 37);have vA:=zC(w.alloc(.cells #[v0,v1,.int .i64 W.time,.int .i64 W.next,v2,v3] 37))(.cells #[.string name] 9);have sA:=zC((w.alloc(.cells #[v0,v1,.int .i64 W.time,.int .i64 W.next,v2,v3] 37)).alloc(.cells #[.string name] 9))(.cells #[.int .i64 zRV] 2);have rA:=zC(((w.alloc(.cells #[v0,v1,.int .i64 W.time,.int .i64 W.next,v2,v3] 37)).alloc(.cells #[.string name] 9)).alloc(.cells #[.int .i64 zRV] 2))(.cells #[.slice none 0 0,.slice none 0 0,.int .i64 0,.int .i64 0,.slice none 0 0,.slice none 0 0,.int .i64 0,.int .i64 0,.int .i64 0] 39);have hb:=zA(zA(zA(gB) vA) sA) rA;have HX:=zd((((zi.zRL w(v0)(v1)(.int .i64 W.time)(.int .i64 W.next)(v2)(v3) 37).zRJ vA).zRJ sA).zRJ rA);have c0:((w.alloc(.cells #[v0,v1,.int .i64 W.time,.int .i64 W.next,v2,v3] 37)).alloc(.cells #[.string name] 9)).cell? ⟨(w.alloc(.cells #[v0,v1,.int .i64 W.time,.int .i64 W.next,v2,v3] 37)).heap.size,0,none⟩=some(.string name):=World.cell?_alloc_at _ _ _ _ rfl;rw [World.size_alloc] at c0;replace c0:=(sA.cell(zD c0)).trans c0;replace c0:=(rA.cell(zD c0)).trans c0;have cB:=zd c0;clear c0;have c1:(((w.alloc(.cells #[v0,v1,.int .i64 W.time,.int .i64 W.next,v2,v3] 37)).alloc(.cells #[.string name] 9)).alloc(.cells #[.int .i64 zRV] 2)).cell? ⟨((w.alloc(.cells #[v0,v1,.int .i64 W.time,.int .i64 W.next,v2,v3] 37)).alloc(.cells #[.string name] 9)).heap.size,0,none⟩=some(.int .i64 zRV):=World.cell?_alloc_at _ _ _ _ rfl;rw [World.size_alloc,World.size_alloc] at c1;replace c1:=(rA.cell(zD c1)).trans c1;have jB:=zd c1;clear c1;have hr:=yq.zRL(((w.alloc(.cells #[v0,v1,.int .i64 W.time,.int .i64 W.next,v2,v3] 37)).alloc(.cells #[.string name] 9)).alloc(.cells #[.int .i64 zRV] 2))(.slice none 0 0)(.slice none 0 0)(.int .i64 0)(.int .i64 0)(.slice none 0 0)(.slice none 0 0)(.int .i64 0)(.int .i64 0)(.int .i64 0) 39;rw [World.size_alloc,World.size_alloc,World.size_alloc] at hr;have HR:=zd hr;clear hr;have hz:((((w.alloc(.cells #[v0,v1,.int .i64 W.time,.int .i64 W.next,v2,v3] 37)).alloc(.cells #[.string name] 9)).alloc(.cells #[.int .i64 zRV] 2)).alloc(.cells #[.slice none 0 0,.slice none 0 0,.int .i64 0,.int .i64 0,.slice none 0 0,.slice none 0 0,.int .i64 0,.int .i64 0,.int .i64 0] 39)).heap.size=w.heap.size+4:=by rw [World.size_alloc,World.size_alloc,World.size_alloc,World.size_alloc]
 go_enter Tryz.func17,Tryz.ntmps17;go_upto_region 1 with fail;generalize((((w.alloc(.cells #[v0,v1,.int .i64 W.time,.int .i64 W.next,v2,v3] 37)).alloc(.cells #[.string name] 9)).alloc(.cells #[.int .i64 zRV] 2)).alloc(.cells #[.slice none 0 0,.slice none 0 0,.int .i64 0,.int .i64 0,.slice none 0 0,.slice none 0 0,.int .i64 0,.int .i64 0,.int .i64 0] 39))=W1 at hb HX HR hz cB jB ⊢;clear gB vA sA rA;obtain⟨⟨x0,-⟩,⟨x1,-⟩,⟨x2,-⟩,⟨x3,-⟩,⟨x4,-⟩,⟨x5,-⟩⟩:=HX.out;have k0:=cB.out;have k1:=jB.out;have aA:=zd(show ∀w',Below(w.heap.size+1+1+1) W1 w'->(fun w'=>w'.cell? ⟨w.heap.size,0,none⟩=some(v0)/\w'.cell? ⟨w.heap.size,1,none⟩=some(v1)/\w'.cell? ⟨w.heap.size,2,none⟩=some(.int .i64 W.time)/\w'.cell? ⟨w.heap.size,3,none⟩=some(.int .i64 W.next)/\w'.cell? ⟨w.heap.size,4,none⟩=some(v2)/\w'.cell? ⟨w.heap.size,5,none⟩=some(v3)/\w'.cell? ⟨w.heap.size+1,0,none⟩=some(.string name)/\w'.cell? ⟨w.heap.size+1+1,0,none⟩=some(.int .i64 zRV)/\Below(w.heap.size+1+1+1) W1 w') w' from fun w' bA=>⟨(bA.cell(p:=⟨w.heap.size,0,none⟩)(by show w.heap.size<_;omega)).trans x0,(bA.cell(p:=⟨w.heap.size,1,none⟩)(by show w.heap.size<_;omega)).trans x1,(bA.cell(p:=⟨w.heap.size,2,none⟩)(by show w.heap.size<_;omega)).trans x2,(bA.cell(p:=⟨w.heap.size,3,none⟩)(by show w.heap.size<_;omega)).trans x3,(bA.cell(p:=⟨w.heap.size,4,none⟩)(by show w.heap.size<_;omega)).trans x4,(bA.cell(p:=⟨w.heap.size,5,none⟩)(by show w.heap.size<_;omega)).trans x5,(bA.cell(p:=⟨w.heap.size+1,0,none⟩)(by show w.heap.size+1<_;omega)).trans k0,(bA.cell(p:=⟨w.heap.size+1+1,0,none⟩)(by show w.heap.size+1+1<_;omega)).trans k1,bA⟩);have iA:w.heap.size+1+1+1<=W1.heap.size:=by omega
 clear x0 x1 x2 x3 x4 x5 k0 k1;refine wp_region_held_drew(S:=(fun w'=>w'.cell? ⟨w.heap.size,0,none⟩=some(v0)/\w'.cell? ⟨w.heap.size,1,none⟩=some(v1)/\w'.cell? ⟨w.heap.size,2,none⟩=some(.int .i64 W.time)/\w'.cell? ⟨w.heap.size,3,none⟩=some(.int .i64 W.next)/\w'.cell? ⟨w.heap.size,4,none⟩=some(v2)/\w'.cell? ⟨w.heap.size,5,none⟩=some(v3)/\w'.cell? ⟨w.heap.size+1,0,none⟩=some(.string name)/\w'.cell? ⟨w.heap.size+1+1,0,none⟩=some(.int .i64 zRV)/\Below(w.heap.size+1+1+1) W1 w'))(by kernel_rfl)(aA.out _((Below.refl _ _).drew.mono iA))(fun hHeld=>?_);have bC:Below W1.heap.size W1 W1.drew:=(Below.refl _ _).drew;refine tk 0(h:=?_);refine tk 2(h:=?_);refine tk 5(h:=?_);refine tk 7(h:=?_);refine zJO [1,3,4](fun i=>if i=4 then [3] else [])(fun i=>i+7)(fun i v w'=>(i=1->zAH w' v 1(fun(_:Nat)=>name))/\(i=3->QAt w' p 91 2 [.string name] v)/\(i=4->zGW w' p 1(fun i=>match i with  | _=>91)(fun i=>match i with  | _=>2)(fun i=>match i with  | _=>[.string name]) v)) 3(G:=fun w'=>Below W1.heap.size W1 w')(by kernel_rfl)(by decide)(by decide)(by decide) ?_(fun _ _ h t=>zA h t)(by assumption) bC ?_ ?_
 ·intro i v w' dC hf t;exact⟨fun e=>(hf.1 e).zRJ t,fun e=>(hf.2.1 e).zRJ t,fun e=>(hf.2.2 e).zRJ t⟩
 ·intro i hi x w2 hS hG hD K hK;simp only [List.mem_cons,List.not_mem_nil,or_false] at hi;rcases hi with rfl | rfl | rfl
  ·refine wpOp_step(zAX rfl)(fun K' nA=>?_);simp only [qb,Act.put,Nat.reduceAdd,s1,s2,s3];have pA:=zC w2(.cells #[.string name] 9);go_simp;refine nA _ _(hK.out _ _ _ ?_(aA.out _((zA hG pA).mono iA)) ⟨fun _=>zOS dA.out rfl,fun e=>absurd e(by decide),fun e=>absurd e(by decide)⟩ pA);simp only [qb,Act.put,Nat.reduceAdd,s1,s2,s3]
  ·refine wpOp_step(zAX rfl)(fun K' nA=>?_);simp only [qb,Act.put,Nat.reduceAdd,s1,s2,s3];go_simp;go_at_call 33;refine(zKy p name w2(HE.out.zRJ(zA hb hG))).mono ?_;rintro e w3 ⟨B0,rfl,jA,hb3⟩;refine nA _ _(hK.out _ _ w3 ?_(aA.out _((zA hG hb3).mono iA)) ⟨fun e=>absurd e(by decide),fun _=>⟨_,rfl,zCV.one jA⟩,fun e=>absurd e(by decide)⟩ hb3);simp only [qb,Act.put,Nat.reduceAdd,s1,s2,s3]
  ·refine wpOp_step(zAX rfl)(fun K' nA=>?_);simp only [qb,Act.put,Nat.reduceAdd,s1,s2,s3];obtain⟨iB,e0,hcap0⟩:=(hD 3(by decide)).2.1 rfl;simp only [e0];have pA:=zC w2(.cells #[.func(.func 91) #[] iB,qP(p 2)] 75);have hA:zGW(w2.alloc(.cells #[.func(.func 91) #[] iB,qP(p 2)] 75)) p 1(fun i=>match i with  | _=>91)(fun i=>match i with  | _=>2)(fun i=>match i with  | _=>[.string name])(.slice(some ⟨w2.heap.size,0,none⟩) 1 1):=zQp(g:=(fun i=>match i with  | _=>91))(ei:=(fun i=>match i with  | _=>2))(caps:=(fun i=>match i with  | _=>[.string name])) hcap0;go_simp;refine nA _ _(hK.out _ _ _ ?_(aA.out _((zA hG pA).mono iA)) ⟨fun e=>absurd e(by decide),fun e=>absurd e(by decide),fun _=>hA⟩ pA);simp only [qb,Act.put,Nat.reduceAdd,s1,s2,s3,e0]
 ·intro x w2 hS hG hF;have hT:=(hF 1(by decide)).1 rfl;obtain⟨-,ta,tc,et,-,-⟩:=id hT;have hN:zAH w2(.slice none 0 0) 0(fun _=>⟨#[]⟩):=⟨by omega,_,_,rfl,fun i hi=>absurd hi(Nat.not_lt_zero _),fun h=>absurd h(Nat.lt_irrefl _)⟩;obtain⟨lb,hA,hcap⟩:=(hF 4(by decide)).2.2 rfl;obtain⟨-,qa,qc,eq,-⟩:=id hA;simp only [qb,zAu,if_true,Act.put,Nat.reduceAdd,s1,s2,s3,et,eq];rw [et] at hT;rw [eq] at hA;have bA:=zA hb hG;have mB:=zd hT;have cC:=zd hN;have oB:=zd hA;have aB:=zd hcap;clear hT hN hA hcap hF;refine tk 6(h:=?_);refine rd [8](rc(fun K hK=>?_) .nil);go_simp;go_at_call 38;refine(zQs p _ _ _ 47 #[.pointer(some ⟨w.heap.size+1,0,none⟩),.pointer(some ⟨w.heap.size+1+1,0,none⟩)] 1 0 1(fun(_:Nat)=>name)(fun _=>⟨#[]⟩)(fun i=>match i with  | _=>91) lb(fun i=>match i with  | _=>2)(fun i=>match i with  | _=>zAP W name) o _ _ _ _ lo hi W w2(HE.out.zRJ bA)(Hp.out.zRJ bA) tB.out b1 b2 b3 b4 mB.out cC.out oB.out ?_ ?_(enters_of Tryz.func47(by kernel_rfl) rfl) ?_ ?_).mono ?_
  ·intro i hi;obtain rfl:i=0:=(by omega);decide
  ·intro i hi;obtain rfl:i=0:=(by omega);exact enters_of Tryz.func91(by kernel_rfl) rfl
  ·intro i hi' w' kA hI eC;have hW:=(Hp.out.zRJ bA).zRJ kA;have h8:=hI.zRa.zRS.1;have gC:=hI.zRa.zRP.1;obtain rfl:i=0:=(by omega);obtain⟨B0,elb,jA⟩:=(aB.out 0(by decide)).is1;replace jA:=(kA.cell(zD jA)).trans jA;rw [elb];exact zIh v0 v1 v2 v3 lo hi W B0 name w' hW h8 fA jA
  ·intro C w' z0 z1 z2 z3 hC kA sB hI hl pB hq cA bB;exact aC.out(w.heap.size+1)(w.heap.size+1+1) C w' z0 z1 z2 z3((kA.cell(zD hS.2.2.2.2.2.2.1)).trans hS.2.2.2.2.2.2.1)(by have:=hG.size;omega)((kA.cell(zD hS.2.2.2.2.2.2.2.1)).trans hS.2.2.2.2.2.2.2.1)(by have:=hG.size;omega) hI hl pB hq sB(zA bA kA) cA bB
  rintro e w3 ⟨r,href,z0,z1,z2,z3,rfl,cA,hb3⟩;obtain⟨n0,nc0,n1,nc1,n2,nc2,n3,nc3,rfl,rfl,rfl,rfl⟩:=cA.form;have lA:=zA hG hb3;have fB:=zd(HR.out.zRJ lA);have mA:=zd cA;have tA:=zd href;clear cA href;generalize eB:zMf r o=oo at mA ⊢;have rB:=zd eB;clear eB
  (try go_wp2_with fail)
  refine hK.out _ _(aA.out _(lA.mono iA)) ?_;clear hK K hHeld;intro hHeld
  try simp only [Act.put,s1,s2,s3]
  refine rd [9](rc(fun K hK=>?_) .nil);obtain⟨⟨r0,g0⟩,⟨r1,g1⟩,⟨r2,g2⟩,⟨r3,g3⟩,⟨r4,g4⟩,⟨r5,g5⟩,⟨r6,g6⟩,⟨r7,g7⟩,⟨r8,g8⟩⟩:=fB.out;go_simp
  (try go_wp2_with fail)
  have hT:=zF.put9 w3(w.heap.size+1+1+1)(.slice n0 oo.world.zRQ.n nc0)(.slice n1 oo.world.zRQ.hn nc1)(.int .i64 oo.world.time)(.int .i64 oo.world.next)(.slice n2 oo.world.sn nc2)(.slice n3 oo.world.pn nc3)(.int .i64 oo.id)(.int .i64 oo.zRb)(.int .i64 oo.code);have nB:Below(w.heap.size+1+1+1) W1(((((((((w3.setCell ⟨w.heap.size+1+1+1,0,none⟩(.slice n0 oo.world.zRQ.n nc0)).setCell ⟨w.heap.size+1+1+1,1,none⟩(.slice n1 oo.world.zRQ.hn nc1)).setCell ⟨w.heap.size+1+1+1,2,none⟩(.int .i64 oo.world.time)).setCell ⟨w.heap.size+1+1+1,3,none⟩(.int .i64 oo.world.next)).setCell ⟨w.heap.size+1+1+1,4,none⟩(.slice n2 oo.world.sn nc2)).setCell ⟨w.heap.size+1+1+1,5,none⟩(.slice n3 oo.world.pn nc3)).setCell ⟨w.heap.size+1+1+1,6,none⟩(.int .i64 oo.id)).setCell ⟨w.heap.size+1+1+1,7,none⟩(.int .i64 oo.zRb)).setCell ⟨w.heap.size+1+1+1,8,none⟩(.int .i64 oo.code)):=(lA.mono iA).trans(hT.zRJ(B:=w.heap.size+1+1+1)(by have:=lA.size;omega)(fun k e=>by omega));refine hK.out _ _(aA.out _ nB) ?_;clear hK K hHeld r0 r1 r2 r3 r4 r5 r6 r7 r8 g0 g1 g2 g3 g4 g5 g6 g7 g8;intro hHeld
  try simp only [Act.put,s1,s2,s3]
  refine wpAnyH_done(by kernel_rfl) ?_ _;go_wp2_with fail;have eA:=fB.out.put(.slice n0 oo.world.zRQ.n nc0)(.slice n1 oo.world.zRQ.hn nc1)(.int .i64 oo.world.time)(.int .i64 oo.world.next)(.slice n2 oo.world.sn nc2)(.slice n3 oo.world.pn nc3)(.int .i64 oo.id)(.int .i64 oo.zRb)(.int .i64 oo.code);have kB:=zA hb lA;have vB:=hT.size;have fC:=lA.size;refine bodyPost_ret(v:=.agg #[.slice n0 oo.world.zRQ.n nc0,.slice n1 oo.world.zRQ.hn nc1,.int .i64 oo.world.time,.int .i64 oo.world.next,.slice n2 oo.world.sn nc2,.slice n3 oo.world.pn nc3,.int .i64 oo.id,.int .i64 oo.zRb,.int .i64 oo.code])(by simp [results,Tryz.results17,go_sem,eA.1.1,eA.2.1.1,eA.2.2.1.1,eA.2.2.2.1.1,eA.2.2.2.2.1.1,eA.2.2.2.2.2.1.1,eA.2.2.2.2.2.2.1.1,eA.2.2.2.2.2.2.2.1.1,eA.2.2.2.2.2.2.2.2.1]) rfl ⟨r,tA.out,?_⟩;rw [rB.out];refine⟨_,_,_,_,rfl,?_,?_⟩
  ·exact(mA.out.zRR hT(fun k e=>by have:=hG.size;omega)).zRO(by have:=hG.size;omega) vB
  ·exact kB.trans(hT.zRJ(B:=w.heap.size) kB.size(fun k e=>by omega))
def zAK(p:zJ)(xs:Int):zJ:={n:=p.n,s:=p.s,hn:=p.hn+1,h:=fun i=>if i=p.hn then xs else p.h i}
open Classical in
noncomputable def zHx(p:zJ)(xs xb:Int):zDe:=if zv p then(if zr p xs xb/\¬Has p.hn p.h xs then⟨zAK p xs,0,0,0⟩else⟨zDi 0,0,0,4⟩)else⟨zDi 0,0,0,1⟩
theorem zOO{p:zJ}{xs xb:Int}(h:¬zv p):zHx p xs xb=⟨zDi 0,0,0,1⟩:=if_neg h
theorem zJL{p:zJ}{xs xb:Int}(h:zv p)(h':¬(zr p xs xb/\¬Has p.hn p.h xs)):zHx p xs xb=⟨zDi 0,0,0,4⟩:=(if_pos h).trans(if_neg h')
theorem zNR{p:zJ}{xs xb:Int}(h:zv p)(h':zr p xs xb)(aA:¬Has p.hn p.h xs):zHx p xs xb=⟨zAK p xs,0,0,0⟩:=(if_pos h).trans(if_pos ⟨h',aA⟩)
theorem zPS{f g:Nat->Int}{n:Nat}(h:∀i,i<n->f i=g i):ic f n=ic g n:=by
 induction n with
 |zero=>rfl
 |succ n ih=>
  unfold ic;rw [ih(fun i hi=>h i(by omega)),h n(by omega)]
theorem zNW(p:zJ)(xs:Int):ic(zAK p xs).h(p.hn+1)=ic p.h p.hn ++ [.int .i64 xs]:=by
 show ic(zAK p xs).h p.hn ++ [.int .i64((zAK p xs).h p.hn)]=_;rw [zPS(f:=(zAK p xs).h)(g:=p.h)(fun i hi=>if_neg(by omega)),show(zAK p xs).h p.hn=xs from if_pos rfl]
theorem zQv(w:World)(a0 a1 x0 x1:Value)(t1 t2 t3:TypeId) :
  zc(((w.alloc(.cells #[a0,a1] t1)).alloc(.cells #[x0,x1] t2)).alloc(.cells #[.slice none 0 0,.slice none 0 0,.int .i64 0,.int .i64 0,.int .i64 0] t3)) w.heap.size a0 a1/\
  zc(((w.alloc(.cells #[a0,a1] t1)).alloc(.cells #[x0,x1] t2)).alloc(.cells #[.slice none 0 0,.slice none 0 0,.int .i64 0,.int .i64 0,.int .i64 0] t3))(w.heap.size+1) x0 x1/\
  zFG(((w.alloc(.cells #[a0,a1] t1)).alloc(.cells #[x0,x1] t2)).alloc(.cells #[.slice none 0 0,.slice none 0 0,.int .i64 0,.int .i64 0,.int .i64 0] t3))(w.heap.size+1+1)(.slice none 0 0)(.slice none 0 0)(.int .i64 0)(.int .i64 0)(.int .i64 0)/\
  Below w.heap.size w(((w.alloc(.cells #[a0,a1] t1)).alloc(.cells #[x0,x1] t2)).alloc(.cells #[.slice none 0 0,.slice none 0 0,.int .i64 0,.int .i64 0,.int .i64 0] t3))/\
  (((w.alloc(.cells #[a0,a1] t1)).alloc(.cells #[x0,x1] t2)).alloc(.cells #[.slice none 0 0,.slice none 0 0,.int .i64 0,.int .i64 0,.int .i64 0] t3)).heap.size=w.heap.size+3:=by
 refine⟨((zc.zRL w a0 a1 t1).zRJ(zC _ _)).zRJ(zC _ _),?_,?_,zA(zA(zC _ _)(zC _ _))(zC _ _),by simp⟩
 ·have:=(zc.zRL(w.alloc(.cells #[a0,a1] t1)) x0 x1 t2).zRJ(zC _(.cells #[.slice none 0 0,.slice none 0 0,.int .i64 0,.int .i64 0,.int .i64 0] t3));rw [World.size_alloc] at this;exact this
 ·have:=zFG.zRL((w.alloc(.cells #[a0,a1] t1)).alloc(.cells #[x0,x1] t2))(.slice none 0 0)(.slice none 0 0)(.int .i64 0)(.int .i64 0)(.int .i64 0) t3;rw [World.size_alloc,World.size_alloc] at this;exact this
theorem zHJ{w wr:World}{lo hi R:Nat}{s0 s1 u2 u3 u4:Value}{p:zJ}(ho:zt wr lo hi s0 s1 p)(cA:R<lo)(aA:w.heap.size<=R)(bA:hi<=wr.heap.size)(hb:Below w.heap.size w wr) :
  zt(put5 wr R s0 s1 u2 u3 u4) w.heap.size(put5 wr R s0 s1 u2 u3 u4).heap.size s0 s1 p/\Below w.heap.size w(put5 wr R s0 s1 u2 u3 u4):=by
 have t:=zF.put5 wr R s0 s1 u2 u3 u4;have hz:=t.size;exact⟨(ho.zRR t(fun k hk=>by omega)).zRO(by omega)(by omega),hb.trans(t.zRJ(by have:=hb.size;omega)(fun k hk=>by omega))⟩
theorem zCj{w wr:World}{R:Nat}{u2 u3 u4:Value}(aA:w.heap.size<=R)(hb:Below w.heap.size w wr) :
  zt(put5 wr R(.slice none 0 0)(.slice none 0 0) u2 u3 u4) w.heap.size(put5 wr R(.slice none 0 0)(.slice none 0 0) u2 u3 u4).heap.size(.slice none 0 0)(.slice none 0 0)(zDi 0)/\Below w.heap.size w(put5 wr R(.slice none 0 0)(.slice none 0 0) u2 u3 u4):=by
 have t:=zF.put5 wr R(.slice none 0 0)(.slice none 0 0) u2 u3 u4;exact⟨zHV,hb.trans(t.zRJ(by have:=hb.size;omega)(fun k hk=>by omega))⟩
theorem zB5{b:Nat}{w w':World}(t:zF(fun k=>k=b) w w'):w.grownBy w'(some b):=⟨t.os,t.tape,t.output,t.size,fun k hk aA=>t.block k hk(fun e=>aA(by rw [e]))⟩
theorem zRD(w:World)(x:Value)(t:TypeId):∀j u,[x][j]?=some u->(w.alloc(.cells #[x] t)).cell?((⟨w.heap.size,0,none⟩:Addr).add j)=some u:=by
 intro j u hj
 match j,hj with
 |0,hj=>simp at hj;subst hj;simp [Addr.add]
 |(j+1),hj=>simp at hj
theorem zQO(x:Int):∀u∈[Value.int .i64 x],u.oneCell'=true:=by
 intro u hu;simp only [List.mem_cons,List.not_mem_nil,or_false] at hu;rw [hu];rfl
theorem zNM{w:World}{lo hi:Nat}{f:Nat->Int}{n c:Nat}{a:Option Addr}(h:qT w lo hi(.slice a n c) n f){w':World}(hb:Below w.heap.size w w'):∀b,a=some b->∀j u,(ic f n)[j]?=some u->w'.cell?(b.add j)=some u:=by
 intro b aA j u hj;have bA:j<n:=by
  have:=(List.getElem?_eq_some_iff.1 hj).1;rw [zBe] at this;omega
 obtain⟨b0,off,ha,hc⟩:=zJw h rfl hb(by omega);rw [ha] at aA;simp only [Option.some.injEq] at aA;subst aA;rw [add_lit];exact hc j u hj
theorem zL6{w:World}{lo hi:Nat}{f:Nat->Int}{n c:Nat}{a:Option Addr}(h:qT w lo hi(.slice a n c) n f):a=none->n=0/\n=0:=fun e=>by
 obtain⟨_,a2,c2,hv,_,hx⟩:=h;simp only [Value.slice.injEq,true_and] at hv;obtain⟨rfl,rfl⟩:=hv;by_cases h0:0<n
 ·obtain⟨b,off,ha,_⟩:=hx h0;rw [ha] at e;cases e
 ·omega
theorem zCU{w w':World}(h:w.grownBy w' none):Below w.heap.size w w':=⟨h.os,h.tape,h.output,h.size,fun k hk=>h.block k hk(by simp)⟩
theorem zF7{w:World}{b:Nat}{x:Value}(h:w.cell? ⟨b,0,none⟩=some x):∀j u,[x][j]?=some u->w.cell?((⟨b,0,none⟩:Addr).add j)=some u:=by
 intro j u hj
 match j,hj with
 |0,hj=>simp at hj;subst hj;rw [add_lit];exact h
 |(j+1),hj=>simp at hj
theorem zLZ{p:zJ}{xs y:Int}{j:Nat}(hj:j<=p.hn):Has j(zAK p xs).h y↔Has j p.h y:=by
 constructor
 ·rintro⟨k,hk,e⟩;exact⟨k,hk,by rw [<-e];exact(if_neg(by omega:¬k=p.hn)).symm⟩
 ·rintro⟨k,hk,e⟩;exact⟨k,hk,by rw [<-e];exact if_neg(by omega:¬k=p.hn)⟩
theorem zMo{p:zJ}{xs xb:Int}(hR:zv p)(hP:zr p xs xb)(hH:¬Has p.hn p.h xs):zv(zAK p xs):=by
 refine⟨hR.1,fun j hj=>hR.2.1 j hj,fun j hj=>?_⟩;by_cases e:j=p.hn
 ·subst e;have hx:(zAK p xs).h p.hn=xs:=if_pos rfl;refine⟨?_,?_,?_,?_⟩
  ·rw [hx];exact hP.2.1
  ·rw [hx];exact hP.2.2.1
  ·rw [hx];intro hf;have h4:=hP.2.2.2;have h5:(p.s xs.toNat).zRU=0:=hf.1;have:=hP.1;omega
  ·rw [hx,zLZ(Nat.le_refl _)];exact hH
 ·have aA:j<p.hn:=(by have:j<p.hn+1:=hj;omega);have hx:(zAK p xs).h j=p.h j:=if_neg e;obtain⟨h1,h2,h3,h4⟩:=hR.2.2 j aA;refine⟨?_,?_,?_,?_⟩
  ·rw [hx];exact h1
  ·rw [hx];exact h2
  ·rw [hx];exact h3
  ·rw [hx,zLZ(by omega)];exact h4
def zC6(t:Nat)(left:Int)(e:Ending):Prop:=∃r:Int,e = .returned(.int .i64 r)/\(0<=r->r+t=left)/\r<=left/\-1<=r
theorem zFI(v:Value)(n lo hi:Nat)(f g:Nat->Int)(left:Int)(w:World)(h1:zR w lo hi v n f g)(aA:0<=left)(bA:left<=1048576) :
  Calls Tryz.prog 135 #[v,.int .i64 left] w fun e w'=>zC6 n left e/\Below w.heap.size w w':=by
 obtain⟨m1,a,c,rfl,mc,g1⟩:=h1;unfold maxLen at m1;clear g1;by_cases h:left - (n:Int)<0
 ·go_enter Tryz.func135,Tryz.ntmps135;go_wp2;go_ret;exact⟨⟨-1,rfl,by omega,by omega,by omega⟩,Below.refl _ _⟩
 ·go_enter Tryz.func135,Tryz.ntmps135;go_wp2;go_ret;exact⟨⟨_,rfl,by omega,by omega,by omega⟩,Below.refl _ _⟩
theorem zJ6(v:Value)(n lo hi:Nat)(f:Nat->Int)(left:Int)(w:World)(h1:qT w lo hi v n f)(aA:0<=left)(bA:left<=1048576) :
  Calls Tryz.prog 65 #[v,.int .i64 left] w fun e w'=>zC6 n left e/\Below w.heap.size w w':=by
 obtain⟨m1,a,c,rfl,mc,g1⟩:=h1;unfold maxLen at m1;clear g1;by_cases h:left - (n:Int)<0
 ·go_enter Tryz.func65,Tryz.ntmps65;go_wp2;go_ret;exact⟨⟨-1,rfl,by omega,by omega,by omega⟩,Below.refl _ _⟩
 ·go_enter Tryz.func65,Tryz.ntmps65;go_wp2;go_ret;exact⟨⟨_,rfl,by omega,by omega,by omega⟩,Below.refl _ _⟩
theorem zMV(v0 v1 v2:Value)(lo hi:Nat)(s:zL)(left:Int)(w:World)(h1:qI w lo hi v0 v1 v2 s)(cA:0<=left)(dA:left<=1048576) :
  Calls Tryz.prog 134 #[.agg #[v0,v1,v2],.int .i64 left] w fun e w'=>zC6(zAY s) left e/\Below w.heap.size w w':=by
 obtain⟨rfl,p1,rfl,m1⟩:=h1;have q1:=p1;obtain⟨_,a,c,rfl,_⟩:=p1;unfold maxLen at m1;go_enter Tryz.func134,Tryz.ntmps134;go_wp2_with fail;have bA:=(Below.refl w.heap.size w).alloc(Nat.le_refl _)(.cells #[.int .i64 s.zRU,.slice a s.kn c,.string s.data] 183);refine(zFI _ s.kn lo hi _ _ _ _(q1.zRJ bA) cA dA).mono ?_;rintro e w1 ⟨⟨r,rfl,hr1,hr2,hr3⟩,hb1⟩;have aA:=zA bA hb1;have e1:=hb1.cell(p:=⟨w.heap.size,2,none⟩)(by simp);simp at e1;have Hr:Hid(0<=r->r+s.kn=left):=hr1;clear hr1 hb1 bA;by_cases h:r<0
 ·go_wp2;go_ret;exact⟨⟨-1,rfl,by omega,by omega,by omega⟩,aA⟩
 ·by_cases h2:r - (s.data.size:Int)<0
  ·go_wp2;go_ret;exact⟨⟨-1,rfl,by omega,by omega,by omega⟩,aA⟩
  ·go_wp2;go_ret;refine⟨⟨_,rfl,fun _=>?_,by omega,by omega⟩,aA⟩;have:=Hr.out(by omega);unfold zAY;omega
theorem zMA(v:Value)(n lo hi:Nat)(f:Nat->zL)(left:Int)(w:World)(h1:qA w lo hi v n f)(kA:0<=left)(jA:left<=1048576) :
  Calls Tryz.prog 64 #[v,.int .i64 left] w fun e w'=>zC6(n+yr f n) left e/\Below w.heap.size w w':=by
 obtain⟨m1,a,c,rfl,mc,g1⟩:=h1;unfold maxLen at m1;have G1:Hid(0<n->∃b off,a=some ⟨b,off,none⟩/\lo<=b/\b<hi/\∀i,i<n->∃v0 v1 v2,w.cell? ⟨b,off+i*3,none⟩=some v0/\w.cell? ⟨b,off+i*3+1,none⟩=some v1/\w.cell? ⟨b,off+i*3+2,none⟩=some v2/\qI w lo hi v0 v1 v2(f i)):=g1;clear g1;by_cases h:left - (n:Int)<0
 ·go_enter Tryz.func64,Tryz.ntmps64;go_wp2;go_ret;exact⟨⟨-1,rfl,by omega,by omega,by omega⟩,Below.refl _ _⟩
 ·go_enter Tryz.func64,Tryz.ntmps64;go_wp2
  go_loopw [1,5](fun m i wr=>∃(k:Nat)(r:Int),k<=n/\i = .int .i64 k/\m = .int .i64 r/\0<=r/\r+n+yr f k=left/\Below w.heap.size w wr)(fun _ i _=>n - (intOf i).toNat)
  case atStart=>exact⟨0,_,Nat.zero_le _,rfl,rfl,by omega,by simp [yr],Below.refl _ _⟩
  case round=>
   obtain⟨k,r,hk,rfl,rfl,hr0,hr,hb⟩:=hrel;have fA:r<=left:=(by omega);have Hr:Hid(r+n+yr f k=left):=hr;clear hr;by_cases gA:k<n
   ·have iA:(k:Int)<(n:Int):=(by omega);obtain⟨b,off,rfl,_,_,k1⟩:=G1.out(by omega);obtain⟨x0,x1,x2,c0,c1,c2,hs⟩:=k1 k gA;have dA:=(hb.cell(zD c0)).trans c0;have eA:=(hb.cell(zD c1)).trans c1;have cA:=(hb.cell(zD c2)).trans c2;have bA:=hs.zRJ hb;have Hs:Hid(qI wr lo hi x0 x1 x2(f k)):=bA;clear k1 G1 c0 c1 c2 hs;obtain⟨rfl,⟨_,ka,kc,rfl,_⟩,rfl,_⟩:=bA;go_wp2_with fail;refine(zMV _ _ _ lo hi(f k) _ _ Hs.out hr0(by omega)).mono ?_;rintro e w1 ⟨⟨r',rfl,hq1,hq2,hq3⟩,hb1⟩;have aA:=zA hb hb1;have Hq:Hid(0<=r'->r'+zAY(f k)=r):=hq1;clear hq1 hb1 dA eA cA;by_cases h3:r'<0
    ·go_wp2;go_ret;exact⟨⟨-1,rfl,by omega,by omega,by omega⟩,aA⟩
    ·go_wp2;go_roundw
     case rel=>
      refine⟨k+1,r',by omega,by go_num,rfl,by omega,?_,aA⟩;have e1:=Hq.out(by omega);have e2:=Hr.out;show r'+(n:Int)+((yr f k+zAY(f k):Nat):Int)=left;omega
     case measure=>simp [intOf];omega
   ·obtain rfl:k=n:=(by omega);go_wp2;go_ret;exact⟨⟨r,rfl,fun _=>by have:=Hr.out;omega,fA,by omega⟩,hb⟩
theorem zML(v0 v1:Value)(lo hi:Nat)(p:zJ)(left:Int)(w:World)(h1:zy w lo hi v0 v1 p)(eA:0<=left)(dA:left<=1048576) :
  Calls Tryz.prog 22 #[.agg #[v0,v1],.int .i64 left] w fun e w'=>zC6(qE p) left e/\Below w.heap.size w w':=by
 have q1:=h1;obtain⟨⟨_,a,c,rfl,_⟩,⟨_,a',c',rfl,_⟩⟩:=h1;go_enter Tryz.func22,Tryz.ntmps22;go_wp2_with fail;have bA:=(Below.refl w.heap.size w).alloc(Nat.le_refl _)(.cells #[.slice a p.n c,.slice a' p.hn c'] 25);refine(zMA _ p.n lo hi _ _ _(q1.1.zRJ bA) eA dA).mono ?_;rintro e w1 ⟨⟨r,rfl,hr1,hr2,hr3⟩,hb1⟩;have aA:=zA bA hb1;have e1:=hb1.cell(p:=⟨w.heap.size,1,none⟩)(by simp);simp at e1;have Hr:Hid(0<=r->r+(p.n+yr p.s p.n:Nat)=left):=hr1;clear hr1 hb1 bA;by_cases h:r<0
 ·go_wp2;go_ret;exact⟨⟨-1,rfl,by omega,by omega,by omega⟩,aA⟩
 ·go_wp2_with fail;refine(zJ6 _ p.hn lo hi _ _ _(q1.2.zRJ aA)(by omega)(by omega)).mono ?_;rintro e w2 ⟨⟨r',rfl,hq1,hq2,hq3⟩,hb3⟩;have cA:=zA aA hb3;have Hq:Hid(0<=r'->r'+p.hn=r):=hq1;clear hq1 hb3;by_cases h3:r'<0
  ·go_wp2;go_ret;exact⟨⟨-1,rfl,by omega,by omega,by omega⟩,cA⟩
  ·go_wp2;go_ret;refine⟨⟨r',rfl,fun _=>?_,by omega,by omega⟩,cA⟩;have e1:=Hq.out(by omega);have e2:=Hr.out(by omega);unfold qE;omega
theorem zGw{p:zJ}(h:∀i,i<p.n->qG(p.s i)\/zAN p(p.s i)):∀k,k<=p.n->yr p.s k<=24*k
 |0,_=>Nat.le_refl _
 |k+1,hk=>by
  have ih:=zGw h k(by omega);have hs:zAY(p.s k)<=24:=by
   unfold zAY;rcases h k(by omega)with hf | hf
   ·have h1:=hf.2.1;have h2:(p.s k).data.size=0:=by
     have:=hf.2.2;rw [Go.ByteArray.toList_eq] at this;have e:(p.s k).data.data=#[]:=(by simpa using this);show(p.s k).data.data.size=0;rw [e];rfl
    omega
   ·rcases hf.2 with h2 | h2
    ·omega
    ·have h3:(p.s k).data.size=0:=by
      have:=h2.2.1;rw [Go.ByteArray.toList_eq] at this;have e:(p.s k).data.data=#[]:=(by simpa using this);show(p.s k).data.data.size=0;rw [e];rfl
     omega
  show yr p.s k+zAY(p.s k)<=_;omega
theorem zDy{p:zJ}(h:zv p):qE p<=10000:=by
 have h1:=zGw h.2.1 p.n(Nat.le_refl _);have h2:=((zCQ p).2 h).2.1;have h3:=h.1;unfold qE;omega
def zx(p:zJ):List(Int×Int)->zJ
 |[]=>p
 |x :: l=>zx(zAK p x.1) l
def yY(p:zJ)(l:List(Int×Int)):Prop:=zv p/\(∀x,x∈l->zr p x.1 x.2/\¬Has p.hn p.h x.1)/\(l.map Prod.fst).Nodup
theorem zN9{p:zJ}{xs y:Int}(h:Has(p.hn+1)(zAK p xs).h y):Has p.hn p.h y\/y=xs:=by
 obtain⟨j,hj,e⟩:=h;by_cases ej:j=p.hn
 ·right;rw [<-e,ej];exact if_pos rfl
 ·left;exact⟨j,by omega,by rw [<-e];exact(if_neg ej).symm⟩
theorem yY.head{p:zJ}{x:Int×Int}{l:List(Int×Int)}(h:yY p(x :: l)):zHx p x.1 x.2=⟨zAK p x.1,0,0,0⟩/\yY(zAK p x.1) l:=by
 obtain⟨h1,h2,h3⟩:=h;obtain⟨g1,g2⟩:=h2 x List.mem_cons_self;rw [List.map_cons,List.nodup_cons] at h3;refine⟨zNR h1 g1 g2,zMo h1 g1 g2,fun y hy=>?_,h3.2⟩;obtain⟨k1,k2⟩:=h2 y(List.mem_cons_of_mem _ hy);refine⟨k1,fun hh=>?_⟩;rcases zN9 hh with e | e
 ·exact k2 e
 ·exact h3.1(e▸List.mem_map_of_mem hy)
theorem yY.cut{l':List(Int×Int)}:∀{l:List(Int×Int)} {p:zJ},yY p(l ++ l')->yY(zx p l) l'
 |[],_,h=>h
 |x :: l,p,h=>yY.cut(l:=l)(p:=zAK p x.1)(yY.head(p:=p)(x:=x)(l:=l ++ l') h).2
theorem zDn(x:Int×Int):∀(l:List(Int×Int))(p:zJ),zx p(l ++ [x])=zAK(zx p l) x.1
 |[],_=>rfl
 |y :: l,p=>zDn x l(zAK p y.1)
theorem zJS:∀(l:List(Int×Int))(p:zJ),(zx p l).n=p.n/\(zx p l).s=p.s/\(zx p l).hn=p.hn+l.length
 |[],_=>⟨rfl,rfl,rfl⟩
 |y :: l,p=>by
  obtain⟨h1,h2,h3⟩:=zJS l(zAK p y.1);refine⟨h1,h2,?_⟩;show(zx(zAK p y.1) l).hn=_;rw [h3,List.length_cons];show p.hn+1+l.length=_;omega
theorem yY.next{p:zJ}{l:List(Int×Int)}(h:yY p l){i:Nat}(hi:i<l.length):zHx(zx p(l.take i)) l[i].1 l[i].2=⟨zx p(l.take(i+1)),0,0,0⟩/\zv(zx p(l.take i)):=by
 have e:l=l.take i ++ l[i] :: l.drop(i+1):=by
  rw [List.getElem_cons_drop,List.take_append_drop]
 have h1:yY(zx p(l.take i))(l[i] :: l.drop(i+1)):=yY.cut(l:=l.take i)(by rw [<-e];exact h);refine⟨?_,h1.1⟩;rw [h1.head.1,List.take_succ_eq_append_getElem hi,zDn]
theorem zGL(f g:Nat->Int)(t:Int):∀k,(qd f g t k).Sublist((List.range k).map fun i=>(f i,g i))
 |0=>List.Sublist.refl _
 |k+1=>by
  rw [List.range_succ,List.map_append,List.map_singleton];unfold qd;split
  ·exact(zGL f g t k).append(List.Sublist.refl _)
  ·exact(zGL f g t k).trans(List.sublist_append_left _ _)
theorem yY.sub{p:zJ}{l l':List(Int×Int)}(h:yY p l)(hs:l'.Sublist l):yY p l':=⟨h.1,fun x hx=>h.2.1 x(hs.subset hx),List.Nodup.sublist(hs.map _) h.2.2⟩
theorem yY.tree{p:zJ}{rs rb:Int}(hR:zv p)(hT:qF p rs rb):yY p(zT p rs rb):=by
 refine⟨hR,fun x hx=>?_,?_⟩
 ·have:=zAW hR hT hx;exact⟨this.1,this.2.2⟩
 ·rcases hT with h | h
  ·rw [zT,if_pos h];exact List.nodup_nil
  ·exact h.2.2
def qm(p:zJ)(i:Nat)(s:zL):zJ:={n:=p.n,s:=fun j=>if j=i then s else p.s j,hn:=p.hn,h:=p.h}
theorem zPP{w wr:World}{lo hi R:Nat}{s0 s1:Value}{p:zJ}(ho:zt wr lo hi s0 s1 p)(cA:R<lo)(aA:w.heap.size<=R)(bA:hi<=wr.heap.size)(hb:Below w.heap.size w wr) :
  zt((wr.setCell ⟨R,0,none⟩ s0).setCell ⟨R,1,none⟩ s1) w.heap.size((wr.setCell ⟨R,0,none⟩ s0).setCell ⟨R,1,none⟩ s1).heap.size s0 s1 p/\Below w.heap.size w((wr.setCell ⟨R,0,none⟩ s0).setCell ⟨R,1,none⟩ s1):=by
 have t:=(zF.put wr R 0 s0).trans(zF.put _ R 1 s1);have hz:=t.size;exact⟨(ho.zRR t(fun k hk=>by omega)).zRO(by omega)(by omega),(hb.setCell aA _).setCell aA _⟩
def zBZ(n:Nat)(f:Nat->zL)(i:Nat):Prop:=i<n/\qG(f i)/\∀j,j<i->¬qG(f j)
theorem zBZ.uniq{n:Nat}{f:Nat->zL}{i j:Nat}(h:zBZ n f i)(h':zBZ n f j):i=j:=by
 rcases Nat.lt_trichotomy i j with e | e | e
 ·exact absurd h.2.1(h'.2.2 i e)
 ·exact e
 ·exact absurd h'.2.1(h.2.2 j e)
open Classical in
noncomputable def zCt(p:zJ)(s:zL):zDe:=
 if zv p/\¬qG s/\zAN p s then(if h:∃i,zBZ p.n p.s i then⟨qm p(Classical.choose h) s,((Classical.choose h:Nat):Int),s.zRU,0⟩else⟨zDi 0,0,0,6⟩)else⟨zDi 0,0,0,1⟩
theorem zGT{p:zJ}{s:zL}(h:¬(zv p/\¬qG s/\zAN p s)):zCt p s=⟨zDi 0,0,0,1⟩:=if_neg h
theorem zGn{p:zJ}{s:zL}(h:zv p/\¬qG s/\zAN p s)(h':∀j,j<p.n->¬qG(p.s j)):zCt p s=⟨zDi 0,0,0,6⟩:=by
 unfold zCt;rw [if_pos h,dif_neg(fun ⟨i,hi⟩=>h' i hi.1 hi.2.1)]
theorem zJ2{p:zJ}{s:zL}{i:Nat}(h:zv p/\¬qG s/\zAN p s)(h':zBZ p.n p.s i):zCt p s=⟨qm p i s,(i:Int),s.zRU,0⟩:=by
 unfold zCt;have hx:∃i,zBZ p.n p.s i:=⟨i,h'⟩;rw [if_pos h,dif_pos hx];have e:Classical.choose hx=i:=(Classical.choose_spec hx).uniq h';rw [e]
theorem zF.trans2{S T:Nat->Prop}{a b c:World}(h:zF S a b)(k:zF T b c)(aA:∀i,T i->i<a.heap.size->S i):zF S a c:=
 ⟨k.os.trans h.os,k.tape.trans h.tape,k.output.trans h.output,Nat.le_trans h.size k.size,fun i hi hs=>(k.block i(Nat.lt_of_lt_of_le hi h.size)(fun t=>hs(aA i t hi))).trans(h.block i hi hs)⟩
theorem zIw{p:zJ}{s:zL}(hR:zv p)(hf:¬qG s):zBD p.n p.s s↔zAN p s:=by
 have aA:∀i,i<p.n->¬qG(p.s i)->1<=(p.s i).zRU:=fun i hi=>zFT(hR.2.1 i hi)
 constructor
 ·rintro(h | h | h)
  ·exact absurd h hf
  ·exact⟨h.1,Or.inl h.2⟩
  ·exact⟨h.1.1,Or.inr ⟨h.1.2.1,h.1.2.2,fun j hj=>(zHO aA).1(h.2 j(by have:=h.1.2.1;omega))⟩⟩
 ·intro h;rcases h.2 with g | g
  ·exact Or.inr(Or.inl ⟨h.1,g⟩)
  ·exact Or.inr(Or.inr ⟨⟨h.1,g.1,g.2.1⟩,fun j hj=>(zHO aA).2(g.2.2 j(by omega))⟩)
theorem zIm(v:Value)(n lo hi:Nat)(f:Nat->zL)(w:World)(h1:qA w lo hi v n f) :
  Calls Tryz.prog 159 #[v,.func(.func 157) #[] #[]] w fun e w'=>((∃i:Nat,zBZ n f i/\e = .returned(.int .i64(i:Int)))\/((∀j,j<n->¬qG(f j))/\e = .returned(.int .i64(-1))))/\Below w.heap.size w w':=by
 have Hp:=zU h1;obtain⟨m1,a,c,rfl,mc,g1⟩:=h1;unfold maxLen at m1;clear g1;go_enter Tryz.func159,Tryz.ntmps159;go_wp2
 go_loopw [5,8](fun _ i wr=>∃k:Nat,k<=n/\i = .int .i64 k/\(∀j,j<k->¬qG(f j))/\Below w.heap.size w wr)(fun _ i _=>n - (intOf i).toNat)
 case atStart=>exact⟨0,Nat.zero_le _,rfl,fun j hj=>absurd hj(Nat.not_lt_zero _),Below.refl _ _⟩
 case round=>
  obtain⟨k,hk,rfl,hall,hb⟩:=hrel;have aA:=zU hall;clear hall;by_cases bA:k<n
  ·have dA:(k:Int)<(n:Int):=(by omega);obtain⟨b,off,ka,kc,rfl,hs⟩:=(Hp.out.zRJ hb).cells bA;have Hs:=zU hs;obtain⟨q0,q1,q2,_⟩:=hs;go_wp2_with fail;refine(zBf _ _ _ lo hi(f k) _ Hs.out.slot).mono ?_;rintro e w1 ⟨⟨t,rfl,ht⟩,hb1⟩;have cA:=zA hb hb1;clear hb1 q0 q1 q2 Hs;by_cases hf:qG(f k)
   ·obtain rfl:t=true:=ht.2 hf;have HF:=zU hf;clear ht hf;go_wp2;go_ret;exact⟨Or.inl ⟨k,⟨bA,HF.out,aA.out⟩,rfl⟩,cA⟩
   ·obtain rfl:t=false:=zQ ht hf;have HF:=zU hf;clear ht hf;go_wp2;go_roundw
    case rel=>exact⟨k+1,by omega,by go_num,zo bA aA.out HF.out,cA⟩
    case measure=>simp [intOf];omega
  ·obtain rfl:k=n:=(by omega);go_wp2;go_ret;exact⟨Or.inr ⟨aA.out,rfl⟩,hb⟩
end Go.Proofs.YtmgeglgboadfiaaGreatDoor
