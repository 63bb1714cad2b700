/- What impl.lineRight's question, impl.part of snapshots, impl.lineRight and impl.linesRight answer. -/
import Derived.Test.YtmgeglgboadfiaaGreatDoorT15
import Derived.WideKeyEntry
set_option linter.unusedVariables false
set_option maxRecDepth 20000
set_option maxHeartbeats 4000000
namespace Go.Proofs.YtmgeglgboadfiaaGreatDoor
open Go.RowKit Go.Maps
theorem zQE(s t:ByteArray):(s.toList == t.toList)=true↔s=t:=⟨fun h=>zOq(by simpa using h),fun h=>zCc h⟩
theorem zON(a:Option Addr)(c:Nat)(s:zm)(name:ByteArray)(T:Nat)(w:World)(hT:w.cell? ⟨T,0,none⟩=some(.string name)) :
  Calls Tryz.prog 230 #[yg(.slice a s.dn c) s,.pointer(some ⟨T,0,none⟩)] w fun e w'=>zG(s.set=name) e/\Below w.heap.size w w':=by
 unfold yg;have bA:=zC w(.cells #[.int .i64 s.id,.string s.name,.string s.set,.int .i64 s.zRT,.int .i64 s.time,.int .i64 s.rs,.int .i64 s.rb,.slice a s.dn c] 99);have cA:=(bA.cell(p:=⟨T,0,none⟩)(zD hT)).trans hT;obtain⟨⟨⟨y0,-⟩,⟨y1,-⟩,⟨y2,-⟩,⟨y3,-⟩⟩,-⟩:=zCK.zRL w(.int .i64 s.id)(.string s.name)(.string s.set)(.int .i64 s.zRT)(.int .i64 s.time)(.int .i64 s.rs)(.int .i64 s.rb)(.slice a s.dn c) 99;clear hT;have aA:=zB(zQE s.set name);go_enter Tryz.func230,Tryz.ntmps230;go_wp2;go_ret;exact⟨⟨_,rfl,aA.out⟩,bA⟩
def zGX(w:World)(base:Nat)(v:Value)(n:Nat):Prop:=∃xs,w.ownsRow base 99 8 v n xs
theorem zGX.zRJ{w w1:World}{base:Nat}{v:Value}{n:Nat}(h:zGX w base v n)(hb:Below w.heap.size w w1):zGX w1 base v n:=by
 obtain⟨xs,h⟩:=h;exact⟨xs,h.kept(yu hb none)(by cases v.ownBlock<;>simp)⟩
theorem zGX.lt{w:World}{base:Nat}{v:Value}{n:Nat}(h:zGX w base v n){q:Nat}(hq:v.ownBlock=some q):base<=q/\q<w.heap.size:=by
 obtain⟨xs,h⟩:=h;rcases h.2 with⟨rfl,_⟩ | ⟨g,cap,cur,rfl,hb,hg,_⟩
 ·simp [Value.ownBlock] at hq
 ·simp only [Value.ownBlock,Option.some.injEq] at hq;subst hq;exact⟨hb,(Array.getElem?_eq_some_iff.1 hg).1⟩
theorem zGX.zRR{w w1:World}{base:Nat}{v:Value}{n:Nat}{row:Option Nat}(h:zGX w base v n)(hg:w.grownBy w1 row)(aA:∀q,v.ownBlock=some q->row≠some q):zGX w1 base v n:=by
 obtain⟨xs,h⟩:=h;refine⟨xs,h.kept hg ?_⟩;cases hv:v.ownBlock with
 |none=>simp
 |some q=>exact Or.inr(fun e=>aA q hv e.symm)
theorem zOK:(Tryz.prog.info? 99).map(fun i=>(i.zero,i.size,i.bytes))=some(some(.agg #[.int .i64 0,.string ⟨#[]⟩,.string ⟨#[]⟩,.int .i64 0,.int .i64 0,.int .i64 0,.int .i64 0,.slice none 0 0]),8,96):=by kernel_rfl
def zRH(w w':World)(v v':Value)(n n':Nat):Prop:=zGX w' w.heap.size v n/\zGX w' w.heap.size v' n'/\(∀q,v.ownBlock=some q->v'.ownBlock≠some q)/\Below w.heap.size w w'
theorem zJW{w1 w2:World}{base g bA n n':Nat}{v v':Value}{xs:List Value}(h':zGX w1 base v' n')(ha:∀q,v.ownBlock=some q->v'.ownBlock≠some q)
  (aA:w2.ownsRow base 99 8(.slice(some ⟨g,0,none⟩)(n+1) bA)(n+1) xs)(hg:w1.grownBy w2 v.ownBlock)(cA:v.ownBlock=some g\/g=w1.heap.size) :
  zGX w2 base(.slice(some ⟨g,0,none⟩)(n+1) bA)(n+1)/\zGX w2 base v' n'/\(∀q,(Value.slice(some ⟨g,0,none⟩)(n+1) bA).ownBlock=some q->v'.ownBlock≠some q):=by
 refine⟨⟨xs,aA⟩,h'.zRR hg(fun q hq e=>ha q e hq),fun q hq e=>?_⟩;simp only [Value.ownBlock,Option.some.injEq] at hq;subst hq;rcases cA with h | h
 ·exact ha _ h e
 ·have:=(h'.lt e).2;omega
theorem zKc(v:Value)(lo hi:Nat)(W:zH)(name:ByteArray)(T:Nat)(w:World)(h:qz w lo hi v W.pn W.zRP)(hn:W.pn<=20)(hT:w.cell? ⟨T,0,none⟩=some(.string name)) :
  Calls Tryz.prog 229 #[v,.func(.func 230) #[] #[.pointer(some ⟨T,0,none⟩)]] w fun e w'=>∃a c vo,e = .returned(.tuple #[.slice a(yt W name W.pn) c,vo])/\Below w.heap.size w w':=by
 have Hp:=zB h;have HT:=zB hT;obtain⟨m1,a,c,rfl,mc,-⟩:=id h;unfold maxLen at m1;clear h hT;obtain⟨i0,hi0,hzz⟩:=Option.map_eq_some_iff.1 zOK;simp only [Prod.mk.injEq] at hzz;have HI:=zB(And.intro hi0 hzz);clear hi0 hzz;have eB:∀(fn:Fn)(bA sA:Array Value)(w:World),(Instr.makeFunc fn bA sA).run Tryz.prog w = .ok(.func fn bA sA) w:=fun _ _ _ _=>rfl
 go_enter Tryz.func229,Tryz.ntmps229;go_wp2
 go_loopw [6,7,12](fun vy vo i wr=>∃k:Nat,k<=W.pn/\i = .int .i64 k/\zRH w wr vy vo(yt W name k)(k - yt W name k))(fun _ _ i _=>W.pn - (intOf i).toNat)
 case atStart=>exact⟨0,Nat.zero_le _,rfl,⟨[],World.ownsRow_nil _ _ _ _⟩,⟨[],World.ownsRow_nil _ _ _ _⟩,fun q hq=>by simp [Value.ownBlock] at hq,Below.refl _ _⟩
 case round=>
  obtain⟨k,hk,rfl,hy,ho,hap,hb⟩:=hrel;have Hy:=zB hy;have Ho:=zB ho;have oA:=zB hap;have tA:=zHS W name k;clear hy ho hap;by_cases vA:k<W.pn
  ·have dB:(k:Int)<(W.pn:Int):=(by omega);obtain⟨b,off,vd,rfl,hs2⟩:=(Hp.out.zRJ hb).cells vA;obtain⟨-,ad,cd,rfl,-,-⟩:=id hs2.zRX;have gA:=zC wr(.cells #[.int .i64(W.zRP k).id,.string(W.zRP k).name,.string(W.zRP k).set,.int .i64(W.zRP k).zRT,.int .i64(W.zRP k).time,.int .i64(W.zRP k).rs,.int .i64(W.zRP k).rb,.slice ad(W.zRP k).dn cd] 99);have HV:=zB(zCK.zRL wr(.int .i64(W.zRP k).id)(.string(W.zRP k).name)(.string(W.zRP k).set)(.int .i64(W.zRP k).zRT)(.int .i64(W.zRP k).time)(.int .i64(W.zRP k).rs)(.int .i64(W.zRP k).rb)(.slice ad(W.zRP k).dn cd) 99);have jA:=zA hb gA;have rA:=zB((jA.cell(p:=⟨T,0,none⟩)(zD HT.out)).trans HT.out);have q0:=hs2.c0;have q1:=hs2.c1;have q2:=hs2.c2;have q3:=hs2.c3;have q4:=hs2.c4;have q5:=hs2.c5;have q6:=hs2.c6;have q7:=hs2.c7;obtain⟨⟨⟨y0,-⟩,⟨y1,-⟩,⟨y2,-⟩,⟨y3,-⟩⟩,⟨y4,-⟩,⟨y5,-⟩,⟨y6,-⟩,⟨y7,-⟩⟩:=HV.out;clear hs2;go_wp2_with fail;clear q0 q1 q2 q3 q4 q5 q6 q7 y0 y1 y2 y3 y4 y5 y6 y7;refine(zON ad cd(W.zRP k) name T _ rA.out).mono ?_;rintro e w1 ⟨⟨s,rfl,hs⟩,hb1⟩;have aB:=zB((Hy.out.zRJ gA).zRJ hb1);have cB:=zB((Ho.out.zRJ gA).zRJ hb1);have bB:=zB(HV.out.zRJ hb1);have pA:=zA jA hb1;clear hb1 jA gA Hy Ho HV rA;have gB:=pA.size;obtain⟨⟨⟨y0,-⟩,⟨y1,-⟩,⟨y2,-⟩,⟨y3,-⟩⟩,⟨y4,-⟩,⟨y5,-⟩,⟨y6,-⟩,⟨y7,-⟩⟩:=bB.out;have eA:=zC w1(.cells #[.int .i64(W.zRP k).id,.string(W.zRP k).name,.string(W.zRP k).set,.int .i64(W.zRP k).zRT,.int .i64(W.zRP k).time,.int .i64(W.zRP k).rs,.int .i64(W.zRP k).rb,.slice ad(W.zRP k).dn cd] 99);have nA:=zB(aB.out.zRJ eA);have kA:=zB(cB.out.zRJ eA);have fA:=zA pA eA;have fB:=eA.size;have HN:=zB(World.news_of_block(heap_alloc_last w1(.cells #[.int .i64(W.zRP k).id,.string(W.zRP k).name,.string(W.zRP k).set,.int .i64(W.zRP k).zRT,.int .i64(W.zRP k).time,.int .i64(W.zRP k).rs,.int .i64(W.zRP k).rb,.slice ad(W.zRP k).dn cd] 99)));clear eA;by_cases hq:(W.zRP k).set=name
   ·obtain rfl:s=true:=hs.2 hq;have ey:=zB(zH3 hq);clear hs hq;obtain⟨xs,hxs⟩:=nA.out;have iA:=zB hxs;clear hxs;go_wp2_with(bA
     |(at_builtin;refine wpList_append_lies _ rfl _ _ 35 rfl w.heap.size 99 i0(.agg #[.int .i64 0,.string ⟨#[]⟩,.string ⟨#[]⟩,.int .i64 0,.int .i64 0,.int .i64 0,.int .i64 0,.slice none 0 0]) 8 96(by kernel_rfl) HI.out.1 HI.out.2.1 HI.out.2.2.1 HI.out.2.2.2 rfl(by decide) _ _ _ rfl iA.out ⟨w1.heap.size,0,none⟩ 1 1 [.int .i64(W.zRP k).id,.string(W.zRP k).name,.string(W.zRP k).set,.int .i64(W.zRP k).zRT,.int .i64(W.zRP k).time,.int .i64(W.zRP k).rs,.int .i64(W.zRP k).rb,.slice ad(W.zRP k).dn cd] rfl rfl HN.out(by simp [Value.oneCell'])(by decide)(by unfold maxLen;omega)(by omega)(by omega) _ rfl ?_;intro g' mA w4 cA aA dA lA)
     |go_in)
    go_roundw
    case rel=>
     obtain⟨r1,r2,r3⟩:=zJW kA.out oA.out cA aA dA;refine⟨k+1,by omega,by go_num,by rw [ey.out];exact r1,?_,r3,fA.grown aA fA.size(fun q hq=>(nA.out.lt hq).1)⟩;rw [ey.out,show k+1 - (yt W name k+1)=k - yt W name k by omega];exact r2
    case measure=>simp [intOf];omega
   ·obtain rfl:s=false:=zQ hs hq;have ey:=zB(zKK hq);clear hs hq;obtain⟨xs,hxs⟩:=kA.out;have iA:=zB hxs;clear hxs;go_wp2_with(bA
     |(at_builtin;refine wpList_append_lies _ rfl _ _ 35 rfl w.heap.size 99 i0(.agg #[.int .i64 0,.string ⟨#[]⟩,.string ⟨#[]⟩,.int .i64 0,.int .i64 0,.int .i64 0,.int .i64 0,.slice none 0 0]) 8 96(by kernel_rfl) HI.out.1 HI.out.2.1 HI.out.2.2.1 HI.out.2.2.2 rfl(by decide) _ _ _ rfl iA.out ⟨w1.heap.size,0,none⟩ 1 1 [.int .i64(W.zRP k).id,.string(W.zRP k).name,.string(W.zRP k).set,.int .i64(W.zRP k).zRT,.int .i64(W.zRP k).time,.int .i64(W.zRP k).rs,.int .i64(W.zRP k).rb,.slice ad(W.zRP k).dn cd] rfl rfl HN.out(by simp [Value.oneCell'])(by decide)(by unfold maxLen;omega)(by omega)(by omega) _ rfl ?_;intro g' mA w4 cA aA dA lA)
     |go_in)
    go_roundw
    case rel=>
     obtain⟨r1,r2,r3⟩:=zJW nA.out(fun q h h'=>oA.out q h' h) cA aA dA;refine⟨k+1,by omega,by go_num,by rw [ey.out];exact r2,?_,fun q h h'=>r3 q h' h,fA.grown aA fA.size(fun q hq=>(kA.out.lt hq).1)⟩;rw [ey.out,show k+1 - yt W name k=k - yt W name k+1 by omega];exact r1
    case measure=>simp [intOf];omega
  ·obtain rfl:k=W.pn:=(by omega);obtain⟨xs,hxs⟩:=Hy.out;obtain⟨ay,cy,rfl,-⟩:=zW hxs;clear hxs;go_wp2
   go_ret2
   exact⟨ay,cy,_,rfl,hb⟩
theorem zOY{W:zH}{name:ByteArray}(aA:name.toList.isEmpty=false)(y:Int):(zN W y).set=name↔zFs W name y:=by
 constructor
 ·intro h;by_cases hx:∃k,yA W y k
  ·obtain⟨k,hk⟩:=hx;rw [yB hk] at h;exact⟨k,hk,h⟩
  ·have e:zN W y=yP:=(by unfold zN;rw [dif_neg hx]);rw [e] at h;rw [<-h] at aA;have h0:yP.set.toList = []:=(by rw [Go.ByteArray.toList_eq];rfl);rw [h0] at aA;exact absurd aA(by decide)
 ·rintro⟨k,hk,h⟩;rw [yB hk];exact h
theorem zCa.wf{W:zH}{name:ByteArray}{start:Int}{n:Nat}{y:Int}(h:zCa W name start n y):(Lit.int .i64 y).wf=true:=by
 have h1:=h.least;have h2:=h.sum;exact WalkArith.wf_i64(by omega)
theorem zI4(v0 v1 v2 v3:Value)(lo hi:Nat)(W:zH)(A:Nat)(sa:Option Addr)(sc:Nat)(S:qC)(w:World)(h:zl w lo hi v0 v1 v2 v3 W)(hp:W.pn<=20)(hA:zBU w lo hi W A)(hD:zCF W)(hP:zB4 W)(pA:S.name.toList.isEmpty=false)(hS:S.zRT=0\/qs W S.zRT) :
  Calls Tryz.prog 224 #[zz v0 v1 v2 v3 W,zDH(.slice sa S.dn sc) S,zGG A] w fun e w'=>zG(zBW W S.name S.zRT S.origin) e/\Below w.heap.size w w':=by
 unfold zDH;have Hp:=zB h;have HA:=zB hA;have HD:=zB hD;have HP:=zB hP;have cA:=zB(zOY(W:=W) pA);have eB:=zB hS;clear h hA hD hP pA hS;have gB:∀(fn:Fn)(aA sA:Array Value)(w:World),(Instr.makeFunc fn aA sA).run Tryz.prog w = .ok(.func fn aA sA) w:=fun _ _ _ _=>rfl
 have ha:=zC w(.cells #[v0,v1,.int .i64 W.time,.int .i64 W.next,v2,v3] 37);have hB:=zi.zRL w v0 v1(.int .i64 W.time)(.int .i64 W.next) v2 v3 37;have hz:(w.alloc(.cells #[v0,v1,.int .i64 W.time,.int .i64 W.next,v2,v3] 37)).heap.size=w.heap.size+1:=World.size_alloc _ _;have jA:=zC(w.alloc(.cells #[v0,v1,.int .i64 W.time,.int .i64 W.next,v2,v3] 37))(.cells #[.string S.name,.int .i64 S.origin,.int .i64 S.zRT,.int .i64 S.rs,.int .i64 S.rb,.slice sa S.dn sc] 67);have hT:=zi.zRL(w.alloc(.cells #[v0,v1,.int .i64 W.time,.int .i64 W.next,v2,v3] 37))(.string S.name)(.int .i64 S.origin)(.int .i64 S.zRT)(.int .i64 S.rs)(.int .i64 S.rb)(.slice sa S.dn sc) 67;rw [hz] at hT;have HT:=zB hT;have gA:=zA ha jA;obtain⟨⟨x0,-⟩,⟨x2,-⟩,⟨x4,-⟩,⟨x6,-⟩,⟨x8,-⟩,⟨x10,-⟩⟩:=hB.zRJ jA;clear hT ha jA hB;go_enter Tryz.func224,Tryz.ntmps224;go_wp2_with fail;clear x0 x2 x4 x6 x8 x10;generalize(w.alloc(.cells #[v0,v1,.int .i64 W.time,.int .i64 W.next,v2,v3] 37)).alloc(.cells #[.string S.name,.int .i64 S.origin,.int .i64 S.zRT,.int .i64 S.rs,.int .i64 S.rb,.slice sa S.dn sc] 67)=W0 at HT gA ⊢;refine(zKc v3 lo hi W S.name(w.heap.size+1) W0(Hp.out.zRP.zRJ gA) hp HT.out.1.1).mono ?_;rintro e w1 ⟨ay,cy,vo,rfl,hb1⟩;have kA:=zB(HT.out.zRJ hb1);have oA:=zA gA hb1;have iB:=zHS W S.name W.pn;clear HT gA hb1 hz;obtain⟨⟨y0,-⟩,⟨y1,-⟩,⟨y2,-⟩,-⟩:=kA.out;go_wp2;clear y0 y1 y2;generalize w.heap.size+1=T at *
 go_loopw [9,10](fun x i wr=>∃(n:Nat)(y:Int),i = .int .i64 n/\x = .int .i64 y/\zCa W S.name S.zRT n y/\zi wr T(.string S.name)(.int .i64 S.origin)(.int .i64 S.zRT)(.int .i64 S.rs)(.int .i64 S.rb)(.slice sa S.dn sc)/\Below w.heap.size w wr)(fun x _ _=>(intOf x).toNat)
 case atStart=>exact⟨0,_,rfl,rfl,zCa.start HP.out _ eB.out,kA.out,oA⟩
 case round=>
  clear kA oA;obtain⟨n,y,rfl,rfl,hw,hT,hb⟩:=hrel;have HT:=zB hT;have Hw:=zB hw;have lA:=zB hw.wf;have bB:=hw.sum;have jB:=hw.least;clear hT hw;have fA:=zB(HA.out.zRJ hb);obtain⟨⟨y0,-⟩,⟨y1,-⟩,-⟩:=HT.out;by_cases hq:(zN W y).set=S.name
  ·obtain⟨kk,hkk,hks⟩:=(cA.out y).1 hq;have rA:=zB(Hw.out.next HP.out hkk hks);have aB:=zB(show(W.zRP kk).zRT<y by have h1:=HP.out.less kk hkk.1;have h2:=hkk.2.1;omega);have tA:=zB(show(zN W y).zRT=(W.zRP kk).zRT by rw [yB hkk]);have Hq:=zB hq;clear hkk hks hq;go_wp2_with fail;go_region_held3(fun w'=>w'.cell? ⟨T,0,none⟩=some(.string S.name))(go_keep)
    (aA | (go_at_call 190;refine(zBi lo hi W A y _ ?_ HD.out lA.out hp).mono ?_;(exact fA.out.zRJ(Below.refl _ _).drew);rintro e w6 ⟨aa,ca,rfl,hpd,hb6⟩;have eA:=fun w=>(show(Instr.field 99(yg(.slice aa(zN W y).dn ca)(zN W y)) 2).run Tryz.prog w = .ok(.string S.name) w by rw [<-Hq.out];exact(zDY(.slice aa(zN W y).dn ca)(zN W y) w).2.1);obtain⟨⟨z0,_⟩,_⟩:=HT.out.zRJ(zK hb6)))
   have dA:=zB(HT.out.zRJ(zK hb6));have bA:=qh hb hb6;have mA:=zB(HA.out.zRJ bA);have fB:(n:Int)<1000000:=(by omega);clear hb6 hpd eA z0 y0 y1 HT fA hb;go_wp2_with fail;refine(zBi lo hi W A y _ mA.out HD.out lA.out hp).mono ?_;rintro e w7 ⟨nA,ca7,rfl,hpd,hb7⟩;have eA:=fun w=>(show(Instr.field 99(yg(.slice nA(zN W y).dn ca7)(zN W y)) 3).run Tryz.prog w = .ok(.int .i64(W.zRP kk).zRT) w by rw [<-tA.out];exact(zDY(.slice nA(zN W y).dn ca7)(zN W y) w).2.2.1)
   have vA:=zB(dA.out.zRJ hb7);have dB:=zA bA hb7;clear hpd hb7 dA bA mA;go_wp2;go_roundw
   case rel=>exact⟨n+1,_,by go_num,rfl,rA.out,vA.out,dB⟩
   case measure=>simp [intOf];have:=aB.out;have:=rA.out.least;omega
  ·have cB:=zB(fun h=>hq((cA.out y).2 h));have f1:=zEM hq;clear hq;go_wp2_with fail;go_region_held3(fun w'=>w'.cell? ⟨T,0,none⟩=some(.string S.name))(go_keep)
    (aA | (go_at_call 190;refine(zBi lo hi W A y _ ?_ HD.out lA.out hp).mono ?_;(exact fA.out.zRJ(Below.refl _ _).drew);rintro e w6 ⟨aa,ca,rfl,hpd,hb6⟩;have eA:=fun w=>(zDY(.slice aa(zN W y).dn ca)(zN W y) w).2.1;obtain⟨⟨z0,_⟩,_⟩:=HT.out.zRJ(zK hb6)))
   have dA:=zB(HT.out.zRJ(zK hb6));have bA:=qh hb hb6;clear hb6 hpd eA z0 y0 y1 HT fA hb f1;obtain⟨⟨z0,-⟩,⟨z1,-⟩,-⟩:=dA.out;have iA:=zB(zCS(origin:=S.origin) Hw.out.steps cB.out);by_cases h1:n=yt W S.name W.pn
   ·by_cases h2:y=S.origin
    ·have Hl:=zB(iA.out.2 ⟨h1,h2⟩);have g1:((n:Int) == (yt W S.name W.pn:Int))=true:=(by simp [h1]);have g2:(y == S.origin)=true:=(by simp [h2]);clear h1 h2;go_wp2;go_ret;exact⟨zG.yes Hl.out,bA⟩
    ·have Hl:=zB(fun h=>h2(iA.out.1 h).2);have g1:((n:Int) == (yt W S.name W.pn:Int))=true:=(by simp [h1]);have g2:(y == S.origin)=false:=(by simp [h2]);clear h1 h2;go_wp2;go_ret;exact⟨zG.no Hl.out,bA⟩
   ·have Hl:=zB(fun h=>h1(iA.out.1 h).1);have h3:¬(n:Int)=(yt W S.name W.pn:Int):=(by omega);have g1:((n:Int) == (yt W S.name W.pn:Int))=false:=(by simp [h3]);clear h1 h3;go_wp2;go_ret;exact⟨zG.no Hl.out,bA⟩
theorem zHh(v0 v1 v2 v3:Value)(lo hi:Nat)(W:zH)(A:Nat)(w:World)(h:zl w lo hi v0 v1 v2 v3 W)(hp:W.pn<=20)(hs:W.sn<=8)(hA:zBU w lo hi W A)(hD:zCF W)(hP:zB4 W) :
  Calls Tryz.prog 206 #[zz v0 v1 v2 v3 W,zGG A] w fun e w'=>zG(∀i,i<W.sn->zBW W(W.zRS i).name(W.zRS i).zRT(W.zRS i).origin) e/\Below w.heap.size w w':=by
 have Hp:=zB h;have HA:=zB hA;have HD:=zB hD;have HP:=zB hP;obtain⟨m2,a',c',rfl,mc',-⟩:=id h.zRS;unfold maxLen at m2;clear h hA hD hP;have ha:=zC w(.cells #[v0,v1,.int .i64 W.time,.int .i64 W.next,.slice a' W.sn c',v3] 37);have HB:=zB(zi.zRL w v0 v1(.int .i64 W.time)(.int .i64 W.next)(.slice a' W.sn c') v3 37);obtain⟨⟨x0,-⟩,⟨x2,-⟩,⟨x4,-⟩,⟨x6,-⟩,⟨x8,-⟩,⟨x10,-⟩⟩:=HB.out;go_enter Tryz.func206,Tryz.ntmps206;go_wp2;clear x0 x2 x4 x6 x8 x10
 go_loopw [10](fun i wr=>∃k:Nat,k<=W.sn/\i = .int .i64 k/\(∀j,j<k->zBW W(W.zRS j).name(W.zRS j).zRT(W.zRS j).origin)/\zi wr w.heap.size v0 v1(.int .i64 W.time)(.int .i64 W.next)(.slice a' W.sn c') v3/\Below w.heap.size w wr)(fun i _=>W.sn - (intOf i).toNat)
 case atStart=>exact⟨0,Nat.zero_le _,rfl,fun j hj=>absurd hj(Nat.not_lt_zero _),HB.out,ha⟩
 case round=>
  clear HB ha;obtain⟨k,hk,rfl,hall,hX,hb⟩:=hrel;have bA:=zB hall;have HX:=zB hX;clear hall hX;by_cases aA:k<W.sn;rotate_left
  ·obtain rfl:k=W.sn:=(by omega);go_wp2;go_ret;exact⟨zG.yes bA.out,hb⟩
  have gA:(k:Int)<(W.sn:Int):=(by omega);obtain⟨b,off,vd,rfl,hs2⟩:=(Hp.out.zRS.zRJ hb).cells aA;obtain⟨-,ad,cd,rfl,-,-⟩:=id hs2.zRX;have eA:=zC wr(.cells #[.string(W.zRS k).name,.int .i64(W.zRS k).origin,.int .i64(W.zRS k).zRT,.int .i64(W.zRS k).rs,.int .i64(W.zRS k).rb,.slice ad(W.zRS k).dn cd] 67);have HV:=zB(zi.zRL wr(.string(W.zRS k).name)(.int .i64(W.zRS k).origin)(.int .i64(W.zRS k).zRT)(.int .i64(W.zRS k).rs)(.int .i64(W.zRS k).rb)(.slice ad(W.zRS k).dn cd) 67);have dA:=zB(HX.out.zRJ eA);have cA:=zA hb eA;have q0:=hs2.c0;have q1:=hs2.c1;have q2:=hs2.c2;have q3:=hs2.c3;have q4:=hs2.c4;have q5:=hs2.c5;obtain⟨⟨y0,-⟩,⟨y1,-⟩,⟨y2,-⟩,⟨y3,-⟩,⟨y4,-⟩,⟨y5,-⟩⟩:=HV.out;obtain⟨⟨x0,-⟩,⟨x2,-⟩,⟨x4,-⟩,⟨x6,-⟩,⟨x8,-⟩,⟨x10,-⟩⟩:=dA.out;clear hs2 eA;go_wp2_with fail;clear q0 q1 q2 q3 q4 q5 y0 y1 y2 y3 y4 y5 x0 x2 x4 x6 x8 x10 HX hb HV;refine(zI4 v0 v1 _ v3 lo hi W A ad cd(W.zRS k) _(Hp.out.zRJ cA) hp(HA.out.zRJ cA) HD.out HP.out(HP.out.zRa k aA)(HP.out.zRS k aA)).mono ?_;rintro e w6 ⟨⟨t6,rfl,ht6⟩,hb6⟩;have iA:=zB(dA.out.zRJ hb6);have fA:=zA cA hb6;have Ht:=zB ht6;clear ht6 hb6 cA dA;cases t6
  ·have Hn:=zB(show ¬zBW W(W.zRS k).name(W.zRS k).zRT(W.zRS k).origin from fun hA=>absurd(Ht.out.2 hA)(by simp));clear Ht;go_wp2;go_ret;exact⟨zG.no fun hA=>Hn.out(hA k aA),fA⟩
  ·have Hn:=zB(Ht.out.1 rfl);clear Ht;go_wp2;go_roundw
   case rel=>exact⟨k+1,by omega,by go_num,zo aA bA.out Hn.out,iA.out,fA⟩
   case measure=>simp [intOf];omega
structure zCs(W:zH):Prop where
 time:zBu W.time 1 900000
 next:zBu W.next 1 900000
 zRS:zQT W.sn W.zRS
 zRP:zPf W
structure zAt(W:zH):Prop where
 zRa:zCs W
 right:zv W.zRQ
 prevs:∀i,i<zq W->zIN W i
 lines:∀i,i<W.sn->zBW W(W.zRS i).name(W.zRS i).zRT(W.zRS i).origin
 trees:zPW W
 homes:zF2 W
theorem zCs.range{W:zH}(h:zCs W):∀i,i<W.pn->1<=(W.zRP i).id/\(W.zRP i).id<W.next/\1<=(W.zRP i).time/\(W.zRP i).time<W.time
 |0,hi=>by
  have:=(h.zRP.2.1 0 hi).2.2.2;have h1:Mid 0(W.zRP 0).id W.next:=this.1;have h2:Mid 0(W.zRP 0).time W.time:=this.2;have a1:=h1.1;have a2:=h1.2;have a3:=h2.1;have a4:=h2.2;omega
 |i+1,hi=>by
  have ih:=h.range i(by omega);have:=(h.zRP.2.1(i+1) hi).2.2.2;have h1:Mid(W.zRP i).id(W.zRP(i+1)).id W.next:=this.1;have h2:Mid(W.zRP i).time(W.zRP(i+1)).time W.time:=this.2;have a1:=h1.1;have a2:=h1.2;have a3:=h2.1;have a4:=h2.2;omega
theorem zCs.rise{W:zH}(h:zCs W):∀i,i<W.pn->∀j,j<i->(W.zRP j).id<(W.zRP i).id
 |0,_,j,hj=>absurd hj(Nat.not_lt_zero _)
 |i+1,hi,j,hj=>by
  have h1:Mid(W.zRP i).id(W.zRP(i+1)).id W.next:=(h.zRP.2.1(i+1) hi).2.2.2.1;have a1:=h1.1;by_cases e:j=i
  ·subst e;exact a1
  ·have:=h.rise i(by omega) j(by omega);omega
theorem zCs.dist{W:zH}(h:zCs W):zCF W:=fun i hi j hj e=>by have:=h.rise i hi j hj;omega
theorem zCs.idsWf{W:zH}(h:zCs W):zNT W.pn W.zRP:=fun i hi=>by
 have h1:=h.range i hi;have h2:=h.next.2;exact WalkArith.wf_i64(by omega)
theorem zCs.times{W:zH}(h:zCs W):zKX W:=fun x=>by
 by_cases hx:∃k,yA W x k
 ·obtain⟨k,hk⟩:=hx;rw [yB hk];have h1:=h.range k hk.1;have h2:=h.time.2;exact⟨by omega,by omega⟩
 ·have:zN W x=yP:=(by unfold zN;rw [dif_neg hx]);rw [this];exact⟨Int.le_refl _,by decide⟩
theorem zIR{W:zH}{i:Nat}(hp:zCl W):zIN W i↔((zO W i).zRT=0\/qs W(zO W i).zRT):=by
 unfold zIN;constructor
 ·intro h;by_cases hx:∃k,yA W(zO W i).zRT k
  ·obtain⟨k,hk⟩:=hx;exact Or.inr ⟨k,hk.1,hk.2.1⟩
  ·have e:zN W(zO W i).zRT=yP:=(by unfold zN;rw [dif_neg hx]);rw [e] at h;exact Or.inl h.symm
 ·rintro(h | h)
  ·rw [h,zFX(fun k hk e=>by have:=hp k hk;omega)];rfl
  ·obtain⟨k,hk⟩:=h.no;rw [yB hk];exact hk.2.1
theorem zCs.prevOk{W:zH}(h:zCs W)(hp:∀i,i<zq W->zIN W i):zB4 W where
 ids:=fun k hk=>by have h1:=h.range k hk;have h2:=h.next.2;omega
 zRT:=fun k hk=>by
  have:=(zIR(fun k hk=>(h.range k hk).1)).1(hp k(by unfold zq;omega));rw [qS hk] at this;exact this
 less:=fun k hk=>(h.zRP.2.1 k hk).2.2.1
 zRS:=fun k hk=>by
  have:=(zIR(fun k hk=>(h.range k hk).1)).1(hp(W.pn+k)(by unfold zq;omega));rw [yH] at this;exact this
 zRa:=fun k hk=>zDA(h.zRS.2 k hk).1
theorem zLu{W:zH}(h:zB4 W){name:ByteArray}{start:Int}(hs:start=0\/qs W start):∀{n:Nat} {e:Int},Steps W name start n e->(e=0\/qs W e)
 |0,_,.zero=>hs
 |n+1,_,.next(k:=k) _ hk _=>h.zRT k hk.1
theorem zIK{f:Nat->qC}{i:Nat}(hn:yM(f i).name):zDP(zD8 f i)(f i).name↔(0<i->zDP(f(i - 1)).name(f i).name):=by
 cases i with
 |zero=>
  refine⟨fun _ h=>absurd h(by omega),fun _=>?_⟩;have aA:=zDA hn;unfold zDP zD8;have h0:(⟨#[]⟩:ByteArray).toList = []:=(by rw [Go.ByteArray.toList_eq]);rw [h0];cases hl:(f 0).name.toList with
  |nil=>rw [hl] at aA;exact absurd aA(by decide)
  |cons a l=>simp [Op.bytesLess]
 |succ i=>exact⟨fun h _=>h,fun h=>h(by omega)⟩
theorem zGR(W:zH):zAt W↔zNc W:=by
 constructor
 ·intro h;have hP:=h.zRa.prevOk h.prevs;have hN:zBL W:=by
   refine⟨h.zRa.time,h.zRa.next,h.zRa.zRS.1,h.zRa.zRP.1,fun i hi=>?_,fun i hi=>?_⟩
   ·have hs:=h.zRa.zRS.2 i hi;refine⟨hs.1,(zIK hs.1).1 hs.2,fun hz=>(hP.zRS i hi).resolve_left hz,fun hz=>?_⟩;obtain⟨n,e,hst,_,_,rfl⟩:=h.lines i hi;exact(zLu hP(hP.zRS i hi) hst).resolve_left hz
   ·have hs:=h.zRa.zRP.2.1 i hi;have hr:=h.zRa.range i hi;refine⟨⟨hr.1,hr.2.1,hr.2.2.1,hr.2.2.2,hs.2.1,hs.1⟩,⟨fun h0=>?_,fun hz=>⟨hs.2.2.1,(hP.zRT i hi).resolve_left hz⟩⟩,fun k hk=>h.zRa.zRP.2.2 i hi k hk⟩;cases i with
    |zero=>omega
    |succ i=>exact⟨hs.2.2.2.1.1,hs.2.2.2.2.1⟩
  have hT:zBI W:=zIV h.right hN(fun i hi=>by have:=h.trees.1 i(by unfold zq;omega);rw [qS hi] at this;exact this)(fun i hi=>by have:=h.trees.1(W.pn+i)(by unfold zq;omega);rw [yH] at this;exact this);have hM:∀i,i<zq W->zJF W(zO W i):=fun i hi=>(zID hT hi).1(h.trees.2 i hi)
  have hh:=(zJR hT(fun j hj=>by have:=hP.pos j hj;omega) hM).1 h.homes;exact⟨h.right,hN,h.lines,fun i hi=>hT.snap hi,fun i hi=>⟨hT.set hi,(hM(W.pn+i)(by unfold zq;omega)).1⟩,fun i hi=>(hM i(by unfold zq;omega)).1,hh.1,fun i hi=>(hM i hi).2,hh.2⟩
 ·intro h;have hP:=h.zRa.prevOk;have hT:zBI W:=zIV h.right h.zRa h.zRP(fun i hi=>(h.zRS i hi).1);have hM:∀i,i<zq W->zJF W(zO W i):=fun i hi=>by
   refine⟨?_,h.born i hi⟩;by_cases hp:i<W.pn
   ·exact h.zRX i hp
   ·have:=(h.zRS(i - W.pn)(by unfold zq at hi;omega)).2;rw [show W.pn+(i - W.pn)=i by omega] at this;exact this
  have hh:=(zJR hT(fun j hj=>by have:=hP.pos j hj;omega) hM).2 ⟨h.reach,h.zRW⟩;refine⟨⟨h.zRa.1,h.zRa.2.1,⟨h.zRa.2.2.1,fun i hi=>?_⟩,⟨h.zRa.2.2.2.1,fun i hi=>?_,fun i hi k hk=>(h.zRa.2.2.2.2.2 i hi).2.2 k hk⟩⟩,h.right,fun i hi=>?_,h.lines,⟨hT.tree,fun i hi=>(zID hT hi).2(hM i hi)⟩,hh⟩
  ·have hs:=h.zRa.2.2.2.2.1 i hi;exact⟨hs.1,(zIK hs.1).2 hs.2.1⟩
  ·have hs:=h.zRa.2.2.2.2.2 i hi;refine⟨hs.1.2.2.2.2.2,hs.1.2.2.2.2.1,hP.less i hi,?_,?_⟩
   ·cases i with
    |zero=>exact⟨by have:=hs.1.1;show(0:Int)<_;omega,hs.1.2.1⟩
    |succ i=>exact⟨(hs.2.1.1(by omega)).1,hs.1.2.1⟩
   ·cases i with
    |zero=>exact⟨by have:=hs.1.2.2.1;show(0:Int)<_;omega,hs.1.2.2.2.1⟩
    |succ i=>exact⟨(hs.2.1.1(by omega)).2,hs.1.2.2.2.1⟩
  ·refine(zIR hP.pos).2 ?_;by_cases hp:i<W.pn
   ·rw [qS hp];exact hP.zRT i hp
   ·have e:=yH W(i - W.pn);rw [show W.pn+(i - W.pn)=i by omega] at e;rw [e];exact hP.zRS _(by unfold zq at hi;omega)
open Go.ChangeMaps Go.MapKept
open Go.WideElems(Fit rd rg pl rd_val elemAt findIdx_arr findIdx_born modify_last set_self)
open Go.WideMaps(KeyLaw)
theorem zIZ(w:World)(b:Nat)(o o':Obj):setBlock(setBlock w b o) b o'=setBlock w b o':=by simp [setBlock]
theorem zI3{w:World}{b:Nat}{o:Obj}(h:w.heap[b]?=some o):setBlock w b o=w:=by
 have e:w.heap.setIfInBounds b o=w.heap:=by
  apply Array.ext_getElem?;intro i;by_cases hi:i=b
  ·subst hi;rw [Array.getElem?_setIfInBounds_self_of_lt(Array.getElem?_eq_some_iff.1 h).1];exact h.symm
  ·rw [Array.getElem?_setIfInBounds_ne(fun e=>hi e.symm)]
 unfold setBlock;rw [e]
theorem zIW{w:World}{b:Nat}{es aA:Array MapEntry}{c c':Nat}(hb:w.heap[b]?=some(.map es c)):w.grownBy(setBlock w b(.map aA c'))(some b):=
 ⟨rfl,rfl,rfl,by simp [setBlock],fun i _ hi=>heap_setBlock_other hb _(fun e=>hi(by rw [e]))⟩
theorem zJg{P:Program}{k e t:TypeId}{w:World}{b n:Nat}{D:DataW Value}(h:w.ownsMap P k zCH b n D)(K0:KeyLaw P k)(ht:P.underlying t=some(.map k e))(hn:n<maxLen){z:Value}(hz:∀u:World,(zeroValue e).run P u = .ok z u)
  {key val v:Value} {kl:Lit}(aA:keyOf P k key=some kl)(jA:D.atKey kl(.held z) = .held v) :
  ∃(v0:Value)(st:Nat)(w1 w2:World),(Instr.mapEntry t(.map(some b)) key).run P w = .ok(.tuple #[v0,goInt st]) w1/\(Instr.lookup t(.map(some b)) key false).run P w1 = .ok v w1/\(Instr.entryStore t(.map(some b))(goInt st) val).run P w1 = .ok() w2/\w2.ownsMap P k zCH b(n+1)(D.put kl(.held val))/\w.grownBy w1(some b)/\w.grownBy w2(some b):=by
 have K:=Keyed.of_law K0;obtain⟨w',hup,hown',hg'⟩:=h.update K ht hn aA(zBy val);obtain⟨wz,hupz,hownz,hgz⟩:=h.update K ht hn aA(zBy z);have bA:=h.lookup K ht(hz w)(zBy z) aA;obtain⟨es,clock,hb,F,hs,hD⟩:=h;obtain⟨v0,st,es1,c1,hent,hor,hst⟩:=WideElems.entry_then_store K0 ht hz hb F aA;have iA:(setBlock w b(.map es1 c1)).heap[b]?=some(.map es1 c1):=heap_setBlock_same hb _;obtain⟨fA,c2,hr2,hu2⟩:=hst _ val iA;have e2:setBlock(setBlock w b(.map es1 c1)) b(.map fA c2)=w':=by
  rw [zIZ];rw [hu2] at hup;injection hup
 refine⟨v0,st,setBlock w b(.map es1 c1),w',hent,?_,by rw [<-e2];exact hr2,hown',zIW hb,hg'⟩;obtain⟨v',ps,hl,hv'⟩:=bA;have ev:v'=v:=by
  have e1:=zED hv';rw [jA] at e1;injection e1 with e1;exact e1.symm
 subst ev
 suffices hh:∀ww:World,ww=setBlock w b(.map es1 c1)->(Instr.lookup t(.map(some b)) key false).run P ww = .ok v' ww from hh _ rfl
 intro ww eA;rcases K0.find w aA es.toList F.keys with⟨h1,h2⟩ | ⟨j,e0,h1,h2,h3⟩
 ·-- it was not there: behind the entry it is there with the zero value
  have gA:setBlock w b(.map es1 c1)=wz:=by
   have hm:(Instr.mapEntry t(.map(some b)) key).run P w = .ok(.tuple #[z,goInt clock])(setBlock w b(.map(es.push ⟨key,z,clock⟩)(clock+1))):=by
    simp [Instr.mapEntry,run_underlying ht,MapKept.run_getObj_map hb,K0.check w false aA,h1,hz,MapKept.run_setObj_map _ hb,Result.andThen,setBlock]
   have hu:(Instr.mapUpdate t(.map(some b)) key z).run P w = .ok()(setBlock w b(.map(es.push ⟨key,z,clock⟩)(clock+1))):=by
    simp [Instr.mapUpdate,run_underlying ht,MapKept.run_getObj_map hb,K0.check w false aA,h1,MapKept.run_setObj_map _ hb,Result.andThen,setBlock]
   rw [hent] at hm;rw [hupz] at hu;injection hm with _ hm;injection hu with _ hu;rw [hm,hu]
  obtain rfl:ww=wz:=eA.trans gA;obtain⟨v2,ps2,hl2,hv2⟩:=hownz.lookup K ht(hz _)(zBy z) aA;have e3:=zED hv2;rw [atKey_put_same(show IsMap D from⟨_,hD⟩)(K.key aA)] at e3;replace e3:=DataW.held.inj e3;have e4:v'=z:=by
   have kA:(Instr.lookup t(.map(some b)) key false).run P w = .ok z w:=by
    rcases Maps.fit_look false K ht(hz w) hb F aA with⟨dA,_,_⟩ | ⟨e0,y,hm0,hk0,_,_,_,_⟩
    ·exact dA
    ·exact absurd hk0(h2 e0 hm0)
   rw [kA] at hl;injection hl with hl _;exact hl.symm
  subst e3;subst e4;exact hl2
 ·-- it was there: the entry leaves the map as it was
  have hj:es[j]?=some e0:=(by simpa using h2);have cA:es.modify j(fun e=>{e with key:=key})=es:=by
   apply Array.ext';rw [Array.toList_modify,modify_eq_set _ _ _ _ h2];have:({e0 with key:=key}:MapEntry)=e0:=(by rw [<-h3]);rw [this];exact set_self _ _ _ h2
  have hm:(Instr.mapEntry t(.map(some b)) key).run P w = .ok(.tuple #[e0.val,goInt e0.born])(setBlock w b(.map es clock)):=by
   simp [Instr.mapEntry,run_underlying ht,MapKept.run_getObj_map hb,K0.check w false aA,h1,hj,h3,K0.stays w aA,cA,MapKept.run_setObj_map _ hb,Result.andThen,setBlock]
  rw [hent,zI3 hb] at hm;obtain rfl:ww=w:=eA.trans(Result.ok.inj hm).2;exact hl
theorem zIa(W : zH)(m : zEq) : (yD W m).length <= 73 := by
  unfold yD zAS yV;exact Nat.le_trans(List.length_filter_le _ _)(qM _ _ _)
theorem zJP(W : zH) : ∀ k, (zn W k).length <= 73 * k
  |0 => by simp [zn]
  |k + 1 => by
    have h1 := zJP W k;have h2 := zIa W(zO W k);unfold zn;rw [List.length_append];omega
theorem zJf(W : zH) {k : Nat} : ∀ {n : Nat}, k <= n -> ∃ l, zn W n = zn W k ++ l
  |0, h => ⟨[], by obtain rfl : k = 0 := by omega
                    simp⟩
  |n + 1, h => by
    by_cases e : k = n + 1
    · subst e;exact ⟨[], by simp⟩
    · obtain ⟨l, hl⟩ := zJf W(k := k)(n := n)(by omega)
      exact ⟨l ++ yD W(zO W n), by rw [show zn W(n + 1) = zn W n ++ yD W(zO W n) from rfl, hl, List.append_assoc]⟩
theorem zPj(W : zH) {k n j : Nat}(hk : k < n)(hj : j < (yD W(zO W k)).length) : (zn W k).length + j < (zn W n).length /\ (zn W n).getD((zn W k).length + j)(0, 0) = (yD W(zO W k)).getD j(0, 0) := by
  obtain ⟨l, hl⟩ := zJf W(k := k + 1)(n := n)(by omega);rw [hl, show zn W(k + 1) = zn W k ++ yD W(zO W k) from rfl];constructor
  · simp only [List.length_append];omega
  · rw [List.getD_eq_getElem?_getD, List.getD_eq_getElem?_getD, List.append_assoc, List.getElem?_append_right(by omega), show(zn W k).length + j - (zn W k).length = j by omega, List.getElem?_append_left hj]
def zLw(x : Int × Int) : Value := .agg #[.int .i64 x.1, .int .i64 x.2]
/-- The keys of the homes, one behind the other. -/
structure yo(W : zH)(key : Nat -> Lit) : Prop where
  ok : zDj key
  at_ : ∀ i, i < (zn W(zq W)).length -> keyOf Tryz.prog 61(zLw((zn W(zq W)).getD i(0, 0))) = some(key i)
theorem zJ5 {W : zH}(hR : zv W.zRQ)(hT : ∀ i, i < zq W -> qF W.zRQ(zO W i).rs(zO W i).rb) {x : Int × Int}(hx : x ∈ zn W(zq W)) : zr W.zRQ x.1 x.2 := by
  obtain ⟨i, hi, h⟩ := zDQ.1 hx;unfold yD zAS yV at h;exact(zAW hR(hT i hi)(List.mem_filter.1 h).1).1
theorem zPg {l : List(Int × Int)} {i : Nat}(h : i < l.length) : l.getD i(0, 0) ∈ l := by
  rw [List.getD_eq_getElem?_getD, List.getElem?_eq_getElem h, Option.getD_some];exact List.getElem_mem h
theorem zOd {W : zH}(hR : zv W.zRQ)(hT : ∀ i, i < zq W -> qF W.zRQ(zO W i).rs(zO W i).rb) : ∃ key, yo W key := by
  have aA : ∀ i, ∃ l, WideAt.IsKeyLit l /\ (i < (zn W(zq W)).length -> keyOf Tryz.prog 61(zLw((zn W(zq W)).getD i(0, 0))) = some l) := fun i => by
    by_cases hi' : i < (zn W(zq W)).length
    · have hp := zJ5 hR hT(zPg hi')
      generalize(zn W(zq W)).getD i(0, 0) = x at hp ⊢;have hf := (qV hR hp).1;have bA := hR.1;obtain ⟨h1, h2, h3, h4⟩ := hp;rw [h4] at hf;obtain ⟨f1, f2⟩ := hf;obtain ⟨l, hl⟩ := zP3(x := x.1)(y := x.2)(WalkArith.wf_i64(by omega))(WalkArith.wf_i64(by omega));exact ⟨l, zQk.key hl, fun _ => hl⟩
    · exact ⟨.string [], trivial, fun h => absurd h hi'⟩
  exact ⟨fun i => (aA i).choose, fun i => (aA i).choose_spec.1, fun i => (aA i).choose_spec.2⟩
theorem zOR {x y : Int × Int}(h : zLw x = zLw y) : x = y := by
  unfold zLw at h;simp only [Value.agg.injEq, Array.mk.injEq, List.cons.injEq, Value.int.injEq, true_and, and_true] at h;exact Prod.ext h.1 h.2
theorem yo.same {W : zH} {key : Nat -> Lit}(h : yo W key) {i j : Nat}(hi : i < (zn W(zq W)).length)(hj : j < (zn W(zq W)).length) : key i = key j ↔ (zn W(zq W)).getD i(0, 0) = (zn W(zq W)).getD j(0, 0) := by
  have h1 := h.at_ i hi;have h2 := h.at_ j hj;constructor
  · intro e
    rw [e] at h1;exact zOR(zQk.inj h1 h2)
  · intro e
    rw [e, h2] at h1;exact(Option.some.inj h1).symm
theorem yo.dist {W : zH} {key : Nat -> Lit}(h : yo W key) : zFd(zn W(zq W)).length key ↔ (zn W(zq W)).Nodup := by
  rw [List.Nodup, List.pairwise_iff_getElem];have hg : ∀ i(hi : i < (zn W(zq W)).length), (zn W(zq W)).getD i(0, 0) = (zn W(zq W))[i] := fun i hi => by rw [List.getD_eq_getElem?_getD, List.getElem?_eq_getElem hi, Option.getD_some]
  constructor
  · intro hd i j hi hj aA e
    refine hd j hj i aA((h.same hi hj).2 ?_);rw [hg i hi, hg j hj];exact e
  · intro hd i hi k hk e
    have := (h.same(by omega) hi).1 e;rw [hg k(by omega), hg i hi] at this;exact hd k i(by omega) hi hk this
/-- The map behind the first p homes. -/
def zJE(key : Nat -> Lit)(p : Nat) : DataW Value := putD key(fun _ => .int .i64 1) p
theorem yo.zRL {W : zH} {key : Nat -> Lit} {p : Nat}(hn : ∀ i, i < p -> key i ≠ key p)(h : yo W key) : (zJE key p).atKey(key p)(.held(.int .i64 0)) = .held(.int .i64 0) := zGe h.ok _ hn _
theorem yo.old {W : zH} {key : Nat -> Lit} {p i : Nat}(hi : i < p)(he : key i = key p)(hd : zFd p key)(h : yo W key) : (zJE key p).atKey(key p)(.held(.int .i64 0)) = .held(.int .i64 1) := by
  rw [<- he];exact zKO h.ok _ _ p i hi(fun j h1 h2 e => hd j h2 i h1 e.symm)
theorem yo.put {W : zH} {key : Nat -> Lit}(h : yo W key)(p : Nat)(v : Value) : ((zJE key p).put(key p)(.held v)).atKey(key p)(.held(.int .i64 0)) = .held v := atKey_put_same(zCN h.ok _ p).isMap(h.ok p) _ _
theorem yo.not_nodup {W : zH} {key : Nat -> Lit} {p i : Nat}(hi : i < p)(hp : p < (zn W(zq W)).length)(he : key i = key p)(h : yo W key) : ¬ (zn W(zq W)).Nodup := fun hn => h.dist.2 hn p hp i hi he
theorem yo.size {W : zH} {key : Nat -> Lit}(h : yo W key) {p : Nat}(hd : zFd p key) : Maps.size(zJE key p) = p := (zGi h.ok _ p).2.2 hd
theorem zGU(v0 v1:Value)(lo hi:Nat)(p:zJ)(w:World)(h1:zy w lo hi v0 v1 p) :
  Calls Tryz.prog 227 #[.agg #[v0,v1]] w fun e w'=>e = .returned(.int .i64(zNG p))/\Below w.heap.size w w':=by
 have Hp:Hid(zy w lo hi v0 v1 p):=h1;obtain⟨⟨m1,a,c,rfl,mc,g1⟩,⟨m2,a',c',rfl,mc',g2⟩⟩:=h1;unfold maxLen at m1 m2;clear g1 g2;have ha:=zC w(.cells #[.slice a p.n c,.slice a' p.hn c'] 33);go_enter Tryz.func227,Tryz.ntmps227;go_wp2_with fail;refine(yz _ _ lo hi p _(Hp.out.zRJ ha)).mono ?_;rintro e w1 ⟨⟨t,rfl,ht⟩,hb1⟩;have Hx:Hid(zc w1 w.heap.size(.slice a p.n c)(.slice a' p.hn c')):=(zc.zRL w _ _ _).zRJ hb1;have bA:=zA ha hb1;clear ha hb1;by_cases hR:zv p
 ·obtain rfl:t=true:=ht.2 hR;have HR:Hid(zv p):=hR;have dA:(p.n:Int)<=200:=(by have:=hR.1;omega);clear ht hR;obtain⟨⟨y0,y1⟩,⟨y2,y3⟩⟩:=Hx.out;have eA:Hid(zNG p=(roomN p.s p.n:Int)):=if_pos HR.out;have HB:Hid(Below w.heap.size w w1):=bA;go_wp2;clear y0 y1 y2 y3 bA
  go_loopw [3,12](fun m i wr=>∃k:Nat,k<=p.n/\i = .int .i64 k/\m = .int .i64(roomN p.s k:Int)/\Below w.heap.size w wr)(fun _ i _=>p.n - (intOf i).toNat)
  case atStart=>exact⟨0,Nat.zero_le _,rfl,rfl,HB.out⟩
  case round=>
   obtain⟨k,hk,rfl,rfl,hb⟩:=hrel;have iA:=zHs p.s k;by_cases fA:k<p.n
   ·have gA:(k:Int)<(p.n:Int):=(by omega);obtain⟨b,off,ka,kc,rfl,hs⟩:=(Hp.out.1.zRJ hb).cells fA;have Hs:Hid(zAj wr b(off+k*3) lo hi ka kc(p.s k)):=hs;obtain⟨q0,q1,q2,_⟩:=hs;go_wp2_with fail;have aA:=zC wr(.cells #[.int .i64(p.s k).zRU,.slice ka(p.s k).kn kc,.string(p.s k).data] 127);refine(zBf _ _ _ lo hi(p.s k) _(Hs.out.slot.zRJ aA)).mono ?_;rintro e w2 ⟨⟨t,rfl,ht⟩,hb1⟩;have cA:=zA hb(zA aA hb1);clear hb1 q0 q1 q2 Hs aA;by_cases hf:qG(p.s k)
    ·obtain rfl:t=true:=ht.2 hf;have HF:Hid(qG(p.s k)):=hf;clear ht hf;go_wp2;go_roundw
     case rel=>exact⟨k+1,by omega,by go_num,congrArg(Value.int .i64)(by rw [zGI HF.out];omega),cA⟩
     case measure=>simp [intOf];omega
    ·obtain rfl:t=false:=zQ ht hf;have HF:Hid(¬qG(p.s k)):=hf;clear ht hf;go_wp2;go_roundw
     case rel=>exact⟨k+1,by omega,by go_num,congrArg(Value.int .i64)(by rw [zFb HF.out]),cA⟩
     case measure=>simp [intOf];omega
   ·obtain rfl:k=p.n:=(by omega);go_wp2;go_ret;exact⟨by rw [eA.out];rfl,hb⟩
 ·obtain rfl:t=false:=zQ ht hR;have HR:Hid(¬zv p):=hR;clear ht hR;go_wp2;go_ret;refine⟨?_,bA⟩;have e:zNG p=0:=if_neg HR.out;rw [e];rfl
end Go.Proofs.YtmgeglgboadfiaaGreatDoor
