/- The line of a set by Prev, as plain facts (no law is proved here). -/
import Derived.Test.YtmgeglgboadfiaaGreatDoorT11
import Derived.WideKeyPair
import Derived.DeepKeys4
set_option linter.unusedVariables false
set_option maxRecDepth 20000
set_option maxHeartbeats 4000000
namespace Go.Proofs.YtmgeglgboadfiaaGreatDoor
open Go.RowKit Go.Maps
open Classical in
noncomputable def yt(W:zH)(name:ByteArray):Nat->Nat
 |0=>0
 |k+1=>yt W name k+(if(W.zRP k).set=name then 1 else 0)
theorem zH3{W:zH}{name:ByteArray}{k:Nat}(h:(W.zRP k).set=name):yt W name(k+1)=yt W name k+1:=by simp [yt,h]
theorem zKK{W:zH}{name:ByteArray}{k:Nat}(h:¬(W.zRP k).set=name):yt W name(k+1)=yt W name k:=by simp [yt,h]
theorem zHS(W:zH)(name:ByteArray):∀k,yt W name k<=k
 |0=>Nat.le_refl _
 |k+1=>by
  have:=zHS W name k;by_cases h:(W.zRP k).set=name
  ·rw [zH3 h];omega
  ·rw [zKK h];omega
inductive Steps(W:zH)(name:ByteArray)(start:Int):Nat->Int->Prop
 |zero:Steps W name start 0 start
 |next {n:Nat} {x:Int} {k:Nat}:Steps W name start n x->yA W x k->(W.zRP k).set=name->Steps W name start(n+1)(W.zRP k).zRT
def zFs(W:zH)(name:ByteArray)(x:Int):Prop:=∃k,yA W x k/\(W.zRP k).set=name
def zBW(W:zH)(name:ByteArray)(start origin:Int):Prop:=∃n e,Steps W name start n e/\¬zFs W name e/\n=yt W name W.pn/\e=origin
theorem Steps.det{W:zH}{name:ByteArray}{start:Int}:∀{n:Nat} {x y:Int},Steps W name start n x->Steps W name start n y->x=y
 |0,_,_,.zero,.zero=>rfl
 |n+1,_,_,.next h hk _,.next h' hk' _=>by
  have e:=Steps.det h h';subst e;rw [yA.uniq hk hk']
theorem Steps.less{W:zH}{name:ByteArray}{start:Int}:∀{n m:Nat} {x:Int},Steps W name start m x->n<m->∃y,Steps W name start n y/\zFs W name y
 |n,0,_,_,h=>absurd h(Nat.not_lt_zero _)
 |n,m+1,_,.next(x:=x) h hk hs,hl=>by
  by_cases e:n=m
  ·subst e;exact⟨x,h,_,hk,hs⟩
  ·exact Steps.less h(by omega)
theorem Steps.end{W:zH}{name:ByteArray}{start:Int}{n m:Nat}{x y:Int}(h:Steps W name start n x)(hx:¬zFs W name x)(h':Steps W name start m y)(hy:¬zFs W name y):n=m/\x=y:=by
 have e:n=m:=by
  rcases Nat.lt_trichotomy n m with hl | hl | hl
  ·obtain⟨z,hz,ho⟩:=h'.less hl;rw [h.det hz] at hx;exact absurd ho hx
  ·exact hl
  ·obtain⟨z,hz,ho⟩:=h.less hl;rw [h'.det hz] at hy;exact absurd ho hy
 subst e;exact⟨rfl,h.det h'⟩
theorem zCS{W:zH}{name:ByteArray}{start origin:Int}{n:Nat}{x:Int}(h:Steps W name start n x)(hx:¬zFs W name x):zBW W name start origin↔n=yt W name W.pn/\x=origin:=by
 constructor
 ·rintro⟨m,y,hs,hy,h1,h2⟩;obtain⟨rfl,rfl⟩:=h.end hx hs hy;exact⟨h1,h2⟩
 ·rintro⟨h1,h2⟩;exact⟨n,x,h,hx,h1,h2⟩
theorem zHw{W:zH}{x r:Int}{k:Nat}(hk:yA W x k)(h:zGA W.pn(fun k=>(W.zRP k).id=x) r):r=(k:Int):=by
 rcases h with⟨j,hj,e,hm,rfl⟩ | ⟨hn,_⟩
 ·rw [yA.uniq hk ⟨hj,e,hm⟩]
 ·exact absurd hk.2.1(hn k hk.1)
theorem qs.no{W:zH}{x:Int}(h:qs W x):∃k,yA W x k:=zGC(Nat.le_refl _) h
structure zB4(W:zH):Prop where
 ids:∀k,k<W.pn->1<=(W.zRP k).id/\(W.zRP k).id<900000
 zRT:∀k,k<W.pn->(W.zRP k).zRT=0\/qs W(W.zRP k).zRT
 less:∀k,k<W.pn->(W.zRP k).zRT<(W.zRP k).id
 zRS:∀k,k<W.sn->(W.zRS k).zRT=0\/qs W(W.zRS k).zRT
 zRa:∀k,k<W.sn->(W.zRS k).name.toList.isEmpty=false
theorem zB4.pos{W:zH}(h:zB4 W):zCl W:=fun k hk=>(h.ids k hk).1
theorem qs.range{W:zH}(h:zB4 W){x:Int}(hx:qs W x):1<=x/\x<900000:=by
 obtain⟨k,hk,rfl⟩:=hx;exact h.ids k hk
theorem zDA{s:ByteArray}(h:yM s):s.toList.isEmpty=false:=by
 have:=h.1;rw [Go.ByteArray.toList_eq];cases s with
 |mk d=>
  cases hd:d.toList with
  |nil=>
   have h0:d.size=0:=(by rw [<-Array.length_toList,hd];rfl);have h1:1<=d.size:=this;omega
  |cons a l=>simp
theorem zBL.prevOk{W:zH}(h:zBL W):zB4 W where
 ids:=fun k hk=>⟨(h.2.2.2.2.2 k hk).1.1,by have:=(h.2.2.2.2.2 k hk).1.2.1;have:=h.2.1.2;omega⟩
 zRT:=fun k hk=>by
  by_cases e:(W.zRP k).zRT=0
  ·exact Or.inl e
  ·exact Or.inr((h.2.2.2.2.2 k hk).2.1.2 e).2
 less:=fun k hk=>by
  by_cases e:(W.zRP k).zRT=0
  ·have:=(h.2.2.2.2.2 k hk).1.1;omega
  ·exact((h.2.2.2.2.2 k hk).2.1.2 e).1
 zRS:=fun k hk=>by
  by_cases e:(W.zRS k).zRT=0
  ·exact Or.inl e
  ·exact Or.inr((h.2.2.2.2.1 k hk).2.2.1 e)
 zRa:=fun k hk=>zDA(h.2.2.2.2.1 k hk).1
structure zCa(W:zH)(name:ByteArray)(start:Int)(n:Nat)(x:Int):Prop where
 steps:Steps W name start n x
 there:x=0\/qs W x
 least:0<=x
 sum:(n:Int)+x<=900000
theorem zCa.start{W:zH}(h:zB4 W)(name:ByteArray){x:Int}(hx:x=0\/qs W x):zCa W name x 0 x where
 steps:=.zero
 there:=hx
 least:=by rcases hx with rfl | hx;exact Int.le_refl _;have:=hx.range h;omega
 sum:=by rcases hx with rfl | hx;decide;have:=hx.range h;omega
theorem zCa.next{W:zH}(h:zB4 W){name:ByteArray}{start:Int}{n:Nat}{x:Int}(hw:zCa W name start n x){k:Nat}(hk:yA W x k)(hs:(W.zRP k).set=name):zCa W name start(n+1)(W.zRP k).zRT where
 steps:=hw.steps.next hk hs
 there:=h.zRT k hk.1
 least:=by rcases h.zRT k hk.1 with e | e;omega;have:=e.range h;omega
 sum:=by have h1:=h.less k hk.1;have h2:=hw.sum;have h3:=hk.2.1;omega
theorem zKs{W:zH}(h:zB4 W)(name:ByteArray):¬zFs W name 0:=fun ⟨k,hk,_⟩=>by
 have:=(h.ids k hk.1).1;have:=hk.2.1;omega
theorem zM2{W:zH}{name:ByteArray}{x:Int}{k:Nat}(hk:yA W x k)(hs:¬(W.zRP k).set=name):¬zFs W name x:=fun ⟨j,hj,e⟩=>hs(by rw [yA.uniq hk hj];exact e)
theorem zIz(v0 v1 v2 v3:Value)(lo hi:Nat)(W:zH)(w:World)(h:zl w lo hi v0 v1 v2 v3 W)(hP:zB4 W)(hs:W.sn<=8)(hp:W.pn<=20) :
  Calls Tryz.prog 70 #[zz v0 v1 v2 v3 W] w fun e w'=>zG(∀i,i<W.sn->zBW W(W.zRS i).name(W.zRS i).zRT(W.zRS i).origin) e/\Below w.heap.size w w':=by
 have Hp:=zB h;have HP:=zB hP;obtain⟨m1,a,c,rfl,mc,-⟩:=id h.zRP;obtain⟨m2,a',c',rfl,mc',-⟩:=id h.zRS;unfold maxLen at m1 m2;clear h hP;have ha:=zC w(.cells #[v0,v1,.int .i64 W.time,.int .i64 W.next,.slice a' W.sn c',.slice a W.pn c] 37);have HB:=zB(zi.zRL w v0 v1(.int .i64 W.time)(.int .i64 W.next)(.slice a' W.sn c')(.slice a W.pn c) 37);go_enter Tryz.func70,Tryz.ntmps70;go_wp2
 go_loopw [3](fun i wr=>∃k:Nat,k<=W.sn/\i = .int .i64 k/\(∀j,j<k->zBW W(W.zRS j).name(W.zRS j).zRT(W.zRS j).origin)/\zi wr w.heap.size v0 v1(.int .i64 W.time)(.int .i64 W.next)(.slice a' W.sn c')(.slice a W.pn c)/\Below w.heap.size w wr)(fun i _=>W.sn - (intOf i).toNat)
 case atStart=>exact⟨0,Nat.zero_le _,rfl,fun j hj=>absurd hj(Nat.not_lt_zero _),HB.out,ha⟩
 case round=>
  obtain⟨k,hk,rfl,hall,hX,hb⟩:=hrel;have cA:=zB hall;have HX:=zB hX;clear hall hX ha HB;obtain⟨⟨x0,-⟩,⟨x2,-⟩,⟨x4,-⟩,⟨x6,-⟩,⟨x8,-⟩,⟨x10,-⟩⟩:=HX.out;by_cases aA:k<W.sn;rotate_left
  ·obtain rfl:k=W.sn:=(by omega);go_wp2;go_ret;exact⟨zG.yes cA.out,hb⟩
  have bB:(k:Int)<(W.sn:Int):=(by omega);obtain⟨b,off,vd,rfl,-⟩:=(Hp.out.zRS.zRJ hb).cells aA;go_wp2;clear x0 x2 x4 x6 x8 x10
  go_loopw [5,6](fun o i wr=>∃j:Nat,j<=W.pn/\i = .int .i64 j/\o = .int .i64(yt W(W.zRS k).name j)/\zi wr w.heap.size v0 v1(.int .i64 W.time)(.int .i64 W.next)(.slice(some ⟨b,off,none⟩) W.sn c')(.slice a W.pn c)/\Below w.heap.size w wr)(fun _ i _=>W.pn - (intOf i).toNat)
  case atStart=>exact⟨0,Nat.zero_le _,rfl,rfl,HX.out,hb⟩
  case round=>
   clear HX hb;obtain⟨j,hj,rfl,rfl,hX,hb⟩:=hrel;have HX:=zB hX;clear hX;obtain⟨⟨x0,-⟩,⟨x2,-⟩,⟨x4,-⟩,⟨x6,-⟩,⟨x8,-⟩,⟨x10,-⟩⟩:=HX.out;obtain⟨b',off',vd',e',hsk⟩:=(Hp.out.zRS.zRJ hb).cells aA;cases e';have n0:=hsk.c0;have n1:=hsk.c1;have n2:=hsk.c2;clear hsk;have fB:=zHS W(W.zRS k).name j;by_cases pA:j<W.pn
   ·have cB:(j:Int)<(W.pn:Int):=(by omega);obtain⟨b2,off2,vd2,rfl,hs2⟩:=(Hp.out.zRP.zRJ hb).cells pA;have q2:=hs2.c2;clear hs2;have iB:((yt W(W.zRS k).name j:Nat):Int)<1000:=(by omega);by_cases he:(W.zRP j).set=(W.zRS k).name
    ·have f1:=zCc he;have H1:=zB(zH3 he);clear he;go_wp2
     go_quiet(fail)
     go_wp2;go_roundw
     case rel=>exact⟨j+1,by omega,by go_num,by rw [H1.out];go_num,HX.out.zRJ(zg(Below.refl _ _) _),zg hb _⟩
     case measure=>simp [intOf];omega
    ·have f1:=zEM he;have H1:=zB(zKK he);clear he;go_wp2
     go_quiet(fail)
     go_wp2;go_roundw
     case rel=>exact⟨j+1,by omega,by go_num,by rw [H1.out],HX.out.zRJ(zg(Below.refl _ _) _),zg hb _⟩
     case measure=>simp [intOf];omega
   ·obtain rfl:j=W.pn:=(by omega);go_wp2;clear x0 x2 x4 x6 x8 x10 n0 n1 n2
    go_loopw [4,7](fun i x wr=>∃(n:Nat)(y:Int),i = .int .i64 n/\x = .int .i64 y/\zCa W(W.zRS k).name(W.zRS k).zRT n y/\zi wr w.heap.size v0 v1(.int .i64 W.time)(.int .i64 W.next)(.slice(some ⟨b,off,none⟩) W.sn c')(.slice a W.pn c)/\Below w.heap.size w wr)(fun _ x _=>(intOf x).toNat)
    case atStart=>exact⟨0,_,rfl,rfl,zCa.start HP.out _(HP.out.zRS k aA),HX.out,hb⟩
    case round=>
     clear HX hb;obtain⟨n,y,rfl,rfl,hw,hX,hb⟩:=hrel;have HX:=zB hX;have Hw:=zB hw;have vA:=hw.sum;have gB:=hw.least;clear hX hw;obtain⟨⟨x0,-⟩,⟨x2,-⟩,⟨x4,-⟩,⟨x6,-⟩,⟨x8,-⟩,⟨x10,-⟩⟩:=HX.out;obtain⟨b',off',vd',e',hsk⟩:=(Hp.out.zRS.zRJ hb).cells aA;cases e';have n0:=hsk.c0;have n1:=hsk.c1;clear hsk;by_cases hz:y=0
     ·have eA:=zB(show ¬zFs W(W.zRS k).name y by rw [hz];exact zKs HP.out _);have iA:(y == 0)=true:=(by simp [hz]);have kA:decide(y=0)=true:=(by simp [hz]);have jA:(y != 0)=false:=(by simp [hz]);clear hz;go_wp2_with fail
      go_quiet(fail)
      clear iA kA jA;have bA:=zB HX.out;clear x0 x2 x4 x6 x8 x10;obtain⟨⟨e0,-⟩,⟨e2,-⟩,⟨e4,-⟩,⟨e6,-⟩,⟨e8,-⟩,⟨e10,-⟩⟩:=bA.out;by_cases h1:n=yt W(W.zRS k).name W.pn
      ·by_cases h2:y=(W.zRS k).origin
       ·have Hl:=zB((zCS(origin:=(W.zRS k).origin) Hw.out.steps eA.out).2 ⟨h1,h2⟩);have g1:((n:Int) == (yt W(W.zRS k).name W.pn:Int))=true:=(by simp [h1]);have g2:((n:Int) != (yt W(W.zRS k).name W.pn:Int))=false:=(by simp [h1]);have g3:decide((n:Int)=(yt W(W.zRS k).name W.pn:Int))=true:=(by simp [h1]);have g4:(y == (W.zRS k).origin)=true:=(by simp [h2]);have g5:(y != (W.zRS k).origin)=false:=(by simp [h2]);have g6:decide(y=(W.zRS k).origin)=true:=(by simp [h2]);clear h1 h2;go_wp2;go_roundw
        case rel=>exact⟨k+1,by omega,by go_num,zo aA cA.out Hl.out,HX.out.zRJ(zg(Below.refl _ _) _),zg hb _⟩
        case measure=>simp [intOf];omega
       ·have Hl:=zB(show ¬zBW W(W.zRS k).name(W.zRS k).zRT(W.zRS k).origin from fun h=>h2((zCS Hw.out.steps eA.out).1 h).2);have g1:((n:Int) == (yt W(W.zRS k).name W.pn:Int))=true:=(by simp [h1]);have g2:((n:Int) != (yt W(W.zRS k).name W.pn:Int))=false:=(by simp [h1]);have g3:decide((n:Int)=(yt W(W.zRS k).name W.pn:Int))=true:=(by simp [h1]);have g4:(y == (W.zRS k).origin)=false:=(by simp [h2]);have g5:(y != (W.zRS k).origin)=true:=(by simp [h2]);have g6:decide(y=(W.zRS k).origin)=false:=(by simp [h2]);clear h1 h2;go_wp2;go_ret;exact⟨zG.no fun hA=>Hl.out(hA k aA),zg hb _⟩
      ·have Hl:=zB(show ¬zBW W(W.zRS k).name(W.zRS k).zRT(W.zRS k).origin from fun h=>h1((zCS Hw.out.steps eA.out).1 h).1);have h3:¬(n:Int)=(yt W(W.zRS k).name W.pn:Int):=(by omega);have g1:((n:Int) == (yt W(W.zRS k).name W.pn:Int))=false:=(by simp [h3]);have g2:((n:Int) != (yt W(W.zRS k).name W.pn:Int))=true:=(by simp [h3]);have g3:decide((n:Int)=(yt W(W.zRS k).name W.pn:Int))=false:=(by simp [h3]);clear h1 h3;go_wp2;go_ret;exact⟨zG.no fun hA=>Hl.out(hA k aA),zg hb _⟩
     ·obtain⟨kk,hkk⟩:=(Hw.out.there.resolve_left hz).no;have fA:=zB hkk;have lA:kk<W.pn:=hkk.1;have tA:(kk:Int)<(W.pn:Int):=(by omega);have mA:=(HP.out.ids kk lA).1;have nA:=hkk.2.1;have eB:1<=y:=(by omega);have gA:=HP.out.less kk lA;have rA:=zB(show(W.zRP kk).zRT<y by omega);clear hkk mA nA gA;have iA:(y == 0)=false:=(by simp [hz]);have kA:decide(y=0)=false:=(by simp [hz]);have jA:(y != 0)=true:=(by simp [hz]);clear hz;obtain⟨b2,off2,vd2,rfl,hs2⟩:=(Hp.out.zRP.zRJ hb).cells lA;have q2:=hs2.c2;have q3:=hs2.c3;clear hs2;by_cases he:(W.zRP kk).set=(W.zRS k).name
      ·have oA:=zB(Hw.out.next HP.out fA.out he);rw [he] at q2;clear he;go_wp2_with fail;go_region_held3(fun w'=>w'.cell? ⟨w.heap.size,0,none⟩=some v0/\w'.cell? ⟨w.heap.size,1,none⟩=some v1/\w'.cell? ⟨w.heap.size,2,none⟩=some(.int .i64 W.time)/\w'.cell? ⟨w.heap.size,3,none⟩=some(.int .i64 W.next)/\w'.cell? ⟨w.heap.size,4,none⟩=some(.slice(some ⟨b,off,none⟩) W.sn c')/\w'.cell? ⟨w.heap.size,5,none⟩=some(.slice(some ⟨b2,off2,none⟩) W.pn c)/\w'.cell? ⟨b2,off2+kk*8+2,none⟩=some(.string(W.zRS k).name)/\w'.cell? ⟨b,off+k*6,none⟩=some(.string(W.zRS k).name))(go_keep)
        (first | (go_at_call 49;refine(qH v0 v1 _ _ lo hi W y _ ?_).mono ?_;(exact(Hp.out.zRJ hb).zRJ(Below.refl _ _).drew);rintro e w6 ⟨r,rfl,hF,hb6⟩;obtain rfl:=zHw fA.out hF;obtain⟨⟨y0,_⟩,⟨y1,_⟩,⟨y2,_⟩,⟨y3,_⟩,⟨y4,_⟩,⟨y5,_⟩⟩:=HX.out.zRJ(zK hb6);have z2:=(hb6.cell(p:=⟨b2,off2+kk*8+2,none⟩)(zD q2)).trans q2;have z0:=(hb6.cell(p:=⟨b,off+k*6,none⟩)(zD n0)).trans n0))
       have bA:=zB(HX.out.zRJ(zK hb6));have dA:=qh hb hb6;have z3:=(hb6.cell(p:=⟨b2,off2+kk*8+3,none⟩)(zD q3)).trans q3;have z1:=(hb6.cell(p:=⟨b,off+k*6+1,none⟩)(zD n1)).trans n1;clear hb6 HX hb hF y0 y1 y2 y3 y4 y5 x0 x2 x4 x6 x8 x10 q2 q3 n0 n1 iA kA jA;have dB:(n:Int)<1000000:=(by omega);obtain⟨⟨e0,-⟩,⟨e2,-⟩,⟨e4,-⟩,⟨e6,-⟩,⟨e8,-⟩,⟨e10,-⟩⟩:=bA.out;go_wp2_with fail;go_region_held3(fun w'=>w'.cell? ⟨w.heap.size,0,none⟩=some v0/\w'.cell? ⟨w.heap.size,1,none⟩=some v1/\w'.cell? ⟨w.heap.size,2,none⟩=some(.int .i64 W.time)/\w'.cell? ⟨w.heap.size,3,none⟩=some(.int .i64 W.next)/\w'.cell? ⟨w.heap.size,4,none⟩=some(.slice(some ⟨b,off,none⟩) W.sn c')/\w'.cell? ⟨w.heap.size,5,none⟩=some(.slice(some ⟨b2,off2,none⟩) W.pn c)/\w'.cell? ⟨b2,off2+kk*8+3,none⟩=some(.int .i64(W.zRP kk).zRT))(go_keep)
        (first | (go_at_call 49;refine(qH v0 v1 _ _ lo hi W y _ ?_).mono ?_;(exact(Hp.out.zRJ dA).zRJ(Below.refl _ _).drew);rintro e w7 ⟨r,rfl,hF,hb7⟩;obtain rfl:=zHw fA.out hF;obtain⟨⟨y0,_⟩,⟨y1,_⟩,⟨y2,_⟩,⟨y3,_⟩,⟨y4,_⟩,⟨y5,_⟩⟩:=bA.out.zRJ(zK hb7);have z4:=(hb7.cell(p:=⟨b2,off2+kk*8+3,none⟩)(zD z3)).trans z3))
       have aB:=zB(bA.out.zRJ(zK hb7));have sA:=qh dA hb7;clear hb7 bA dA hF y0 y1 y2 y3 y4 y5 e0 e2 e4 e6 e8 e10;go_wp2;go_roundw
       case rel=>exact⟨n+1,_,by go_num,rfl,oA.out,aB.out,sA⟩
       case measure=>simp [intOf];have:=rA.out;have:=oA.out.least;omega
      have eA:=zB(zM2 fA.out he);have f1:=zEM he;clear he;go_wp2_with fail;go_region_held3(fun w'=>w'.cell? ⟨w.heap.size,0,none⟩=some v0/\w'.cell? ⟨w.heap.size,1,none⟩=some v1/\w'.cell? ⟨w.heap.size,2,none⟩=some(.int .i64 W.time)/\w'.cell? ⟨w.heap.size,3,none⟩=some(.int .i64 W.next)/\w'.cell? ⟨w.heap.size,4,none⟩=some(.slice(some ⟨b,off,none⟩) W.sn c')/\w'.cell? ⟨w.heap.size,5,none⟩=some(.slice(some ⟨b2,off2,none⟩) W.pn c)/\w'.cell? ⟨b2,off2+kk*8+2,none⟩=some(.string(W.zRP kk).set)/\w'.cell? ⟨b,off+k*6,none⟩=some(.string(W.zRS k).name))(go_keep)
       (first | (go_at_call 49;refine(qH v0 v1 _ _ lo hi W y _ ?_).mono ?_;(exact(Hp.out.zRJ hb).zRJ(Below.refl _ _).drew);rintro e w6 ⟨r,rfl,hF,hb6⟩;obtain rfl:=zHw fA.out hF;obtain⟨⟨y0,_⟩,⟨y1,_⟩,⟨y2,_⟩,⟨y3,_⟩,⟨y4,_⟩,⟨y5,_⟩⟩:=HX.out.zRJ(zK hb6);have z2:=(hb6.cell(p:=⟨b2,off2+kk*8+2,none⟩)(zD q2)).trans q2;have z0:=(hb6.cell(p:=⟨b,off+k*6,none⟩)(zD n0)).trans n0))
      have bA:=zB(HX.out.zRJ(zK hb6));have dA:=qh hb hb6;have z3:=(hb6.cell(p:=⟨b2,off2+kk*8+3,none⟩)(zD q3)).trans q3;have z1:=(hb6.cell(p:=⟨b,off+k*6+1,none⟩)(zD n1)).trans n1;clear hb6 HX hb hF y0 y1 y2 y3 y4 y5 x0 x2 x4 x6 x8 x10 q2 q3 n0 n1 iA kA jA;clear f1;obtain⟨⟨e0,-⟩,⟨e2,-⟩,⟨e4,-⟩,⟨e6,-⟩,⟨e8,-⟩,⟨e10,-⟩⟩:=bA.out;by_cases h1:n=yt W(W.zRS k).name W.pn
      ·by_cases h2:y=(W.zRS k).origin
       ·have Hl:=zB((zCS(origin:=(W.zRS k).origin) Hw.out.steps eA.out).2 ⟨h1,h2⟩);have g1:((n:Int) == (yt W(W.zRS k).name W.pn:Int))=true:=(by simp [h1]);have g2:((n:Int) != (yt W(W.zRS k).name W.pn:Int))=false:=(by simp [h1]);have g3:decide((n:Int)=(yt W(W.zRS k).name W.pn:Int))=true:=(by simp [h1]);have g4:(y == (W.zRS k).origin)=true:=(by simp [h2]);have g5:(y != (W.zRS k).origin)=false:=(by simp [h2]);have g6:decide(y=(W.zRS k).origin)=true:=(by simp [h2]);clear h1 h2;go_wp2;go_roundw
        case rel=>exact⟨k+1,by omega,by go_num,zo aA cA.out Hl.out,bA.out,dA⟩
        case measure=>simp [intOf];omega
       ·have Hl:=zB(show ¬zBW W(W.zRS k).name(W.zRS k).zRT(W.zRS k).origin from fun h=>h2((zCS Hw.out.steps eA.out).1 h).2);have g1:((n:Int) == (yt W(W.zRS k).name W.pn:Int))=true:=(by simp [h1]);have g2:((n:Int) != (yt W(W.zRS k).name W.pn:Int))=false:=(by simp [h1]);have g3:decide((n:Int)=(yt W(W.zRS k).name W.pn:Int))=true:=(by simp [h1]);have g4:(y == (W.zRS k).origin)=false:=(by simp [h2]);have g5:(y != (W.zRS k).origin)=true:=(by simp [h2]);have g6:decide(y=(W.zRS k).origin)=false:=(by simp [h2]);clear h1 h2;go_wp2;go_ret;exact⟨zG.no fun hA=>Hl.out(hA k aA),dA⟩
      ·have Hl:=zB(show ¬zBW W(W.zRS k).name(W.zRS k).zRT(W.zRS k).origin from fun h=>h1((zCS Hw.out.steps eA.out).1 h).1);have h3:¬(n:Int)=(yt W(W.zRS k).name W.pn:Int):=(by omega);have g1:((n:Int) == (yt W(W.zRS k).name W.pn:Int))=false:=(by simp [h3]);have g2:((n:Int) != (yt W(W.zRS k).name W.pn:Int))=true:=(by simp [h3]);have g3:decide((n:Int)=(yt W(W.zRS k).name W.pn:Int))=false:=(by simp [h3]);clear h1 h3;go_wp2;go_ret;exact⟨zG.no fun hA=>Hl.out(hA k aA),dA⟩
def zDB(W:zH)(i:Nat):Prop:=zDZ(zO W i).dn(zO W i).ds(zO W i).db(zAQ(zCr W(zO W i))(yV W(zO W i)))
structure zNc(W:zH):Prop where
 right:zv W.zRQ
 zRa:zBL W
 lines:∀i,i<W.sn->zBW W(W.zRS i).name(W.zRS i).zRT(W.zRS i).origin
 zRP:∀i,i<W.pn->qF W.zRQ(W.zRP i).rs(W.zRP i).rb
 zRS:∀i,i<W.sn->qF W.zRQ(W.zRS i).rs(W.zRS i).rb/\zDB W(W.pn+i)
 zRX:∀i,i<W.pn->zDB W i
 reach:zEn W
 born:∀i,i<zq W->zCm W i
 zRW:zGZ W
theorem zPC{W:zH}(h:∀k,k<W.pn->qF W.zRQ(W.zRP k).rs(W.zRP k).rb)(x:Int):qF W.zRQ(zN W x).rs(zN W x).rb:=by
 by_cases hx:∃k,yA W x k
 ·obtain⟨k,hk⟩:=hx;rw [yB hk];exact h k hk.1
 ·have:zN W x=yP:=by
   unfold zN;rw [dif_neg hx]
  rw [this];exact Or.inl ⟨rfl,rfl⟩
theorem zIV{W:zH}(hR:zv W.zRQ)(hN:zBL W)(h1:∀i,i<W.pn->qF W.zRQ(W.zRP i).rs(W.zRP i).rb)(h2:∀i,i<W.sn->qF W.zRQ(W.zRS i).rs(W.zRS i).rb):zBI W where
 right:=hR
 ids:=hN.prevOk.less
 tree:=fun i hi=>by
  by_cases hp:i<W.pn
  ·rw [qS hp];exact h1 i hp
  ·have e:=yH W(i - W.pn);rw [show W.pn+(i - W.pn)=i by omega] at e;rw [e];unfold zq at hi;exact h2 _(by omega)
 time:=fun i hi=>by
  by_cases hp:i<W.pn
  ·rw [qS hp];have:1<=(W.zRP i).time:=(hN.2.2.2.2.2 i hp).1.2.2.1;show 0<=(W.zRP i).time;omega
  ·have e:=yH W(i - W.pn);rw [show W.pn+(i - W.pn)=i by omega] at e;rw [e];have:1<=W.time:=hN.1.1;show 0<=W.time;omega
theorem zNw{v0 v1 v2 v3 vd:Value}{lo hi:Nat}{W:zH}{w:World}(h:zl w lo hi v0 v1 v2 v3 W)(hR:zv W.zRQ)(hO:∀k,k<W.pn->qF W.zRQ(W.zRP k).rs(W.zRP k).rb)(hP:zCl W){k:Nat}(hk:k<W.pn)(hD:zR w lo hi vd(W.zRP k).dn(W.zRP k).ds(W.zRP k).db)(w':World)(hb:Below w.heap.size w w') :
  Calls Tryz.prog 72 #[zz v0 v1 v2 v3 W,.int .i64(W.zRP k).zRT,.agg #[.int .i64(W.zRP k).rs,.int .i64(W.zRP k).rb],vd] w' fun e aA=>zG(zDB W k) e/\Below w'.heap.size w' aA:=by
 unfold zDB;rw [qS hk];exact zGz v0 v1 v2 v3 vd lo hi lo hi _ _ _ W _ _ _ _ _ w'(h.zRJ hb)(hD.zRJ hb) hR(hO k hk)(zPC hO _) hP rfl rfl
theorem zOt{v0 v1 v2 v3 vd:Value}{lo hi:Nat}{W:zH}{w:World}(h:zl w lo hi v0 v1 v2 v3 W)(hR:zv W.zRQ)(hO:∀k,k<W.pn->qF W.zRQ(W.zRP k).rs(W.zRP k).rb)(hP:zCl W){k:Nat}(hT:qF W.zRQ(W.zRS k).rs(W.zRS k).rb)(hD:zR w lo hi vd(W.zRS k).dn(W.zRS k).ds(W.zRS k).db)(w':World)(hb:Below w.heap.size w w') :
  Calls Tryz.prog 72 #[zz v0 v1 v2 v3 W,.int .i64(W.zRS k).zRT,.agg #[.int .i64(W.zRS k).rs,.int .i64(W.zRS k).rb],vd] w' fun e aA=>zG(zDB W(W.pn+k)) e/\Below w'.heap.size w' aA:=by
 unfold zDB;rw [yH];exact zGz v0 v1 v2 v3 vd lo hi lo hi _ _ _ W _ _ _ _ _ w'(h.zRJ hb)(hD.zRJ hb) hR hT(zPC hO _) hP rfl rfl
def zCH(v:Value):Option(DataW Value×List MemPlace):=some(.held v,[])
theorem zED{v:Value}{d:DataW Value}{ps:List MemPlace}(h:zCH v=some(d,ps)):d = .held v:=by
 unfold zCH at h;simp only [Option.some.injEq,Prod.mk.injEq] at h;exact h.1.symm
theorem zBy(v:Value):zCH v=some(.held v,[]):=rfl
theorem zF6{P:Program}(w:World){dA:Array Oper}{aA:List Oper}{o:Oper}{a:Act}{Q:Exit->Act->World->Prop}
  (hg:o.guard=none)(m x:Operand)(t:TypeId)(hop:o.op=Op.lookup t m x false)
  (k e:TypeId)(K:Keyed P k)(ht:P.underlying t=some(.map k e)) {z:Value}(hz:(zeroValue e).run P w = .ok z w)(b n:Nat)(D:DataW Value)
  (hm:a.eval m = .map(some b))(cA:w.ownsMap P k zCH b n D)(key:Value)(kl:Lit)(hx:a.eval x=key)(bA:keyOf P k key=some kl)
  (v:Value)(eA:D.atKey kl(.held z) = .held v)(hK:wpList P dA Q aA(a.put o.dst v) w) :
  wpList P dA Q(o :: aA) a w:=by
 refine wpList_plain hg fun K' fA=>?_
 obtain⟨v',ps,hrun,hv⟩:=cA.lookup K ht hz(zBy z) bA;have e1:=zED hv;rw [eA] at e1;injection e1 with e1;subst e1;unfold Oper.wp;simp [execOp,hop,hm,hx,hrun,Result.andThen];exact fA _ _ hK
theorem zAD{P:Program}(w:World){dA:Array Oper}{aA:List Oper}{o:Oper}{a:Act}{Q:Exit->Act->World->Prop}
  (hg:o.guard=none)(m x:Operand)(t:TypeId)(hop:o.op=Op.lookup t m x true)
  (k e:TypeId)(K:Keyed P k)(ht:P.underlying t=some(.map k e)) {z:Value}(hz:(zeroValue e).run P w = .ok z w)(b n:Nat)(D:DataW Value)
  (hm:a.eval m = .map(some b))(cA:w.ownsMap P k zCH b n D)(key:Value)(kl:Lit)(hx:a.eval x=key)(bA:keyOf P k key=some kl)
  (v:Value)(eA:D.atKey kl(.held z) = .held v)(c:Bool)(hc:Maps.has D kl=c)(hK:wpList P dA Q aA(a.put o.dst(.tuple #[v,.bool c])) w) :
  wpList P dA Q(o :: aA) a w:=by
 refine wpList_lookup_own_ok w hg m x t hop k e K ht zCH hz(.held z) [](zBy z) b n D hm cA key kl hx bA(fun v' ps hv=>?_);have e1:=zED hv;rw [eA] at e1;injection e1 with e1;subst e1;rw [hc];exact hK
def putD(key:Nat->Lit)(val:Nat->Value):Nat->DataW Value
 |0=>.map []
 |k+1=>(putD key val k).put(key k)(.held(val k))
def zDj(key:Nat->Lit):Prop:=∀i,WideAt.IsKeyLit(key i)
theorem zCN{key:Nat->Lit}(hk:zDj key)(val:Nat->Value):∀k,Tidy(putD key val k)
 |0=>tidy_empty
 |k+1=>(zCN hk val k).put(hk k) _
theorem zD4{key:Nat->Lit}(hk:zDj key)(val:Nat->Value)(l:Lit):∀k,Maps.has(putD key val k) l=true↔∃i,i<k/\key i=l
 |0=>by
  constructor
  ·intro h;exact absurd h(by simp [putD,Maps.has])
  ·rintro⟨i,hi,_⟩;omega
 |k+1=>by
  by_cases hx:key k=l
  ·subst hx;exact⟨fun _=>⟨k,by omega,rfl⟩,fun _=>has_put_same(zCN hk val k).isMap(hk k) _⟩
  ·rw [show Maps.has(putD key val(k+1)) l=Maps.has(putD key val k) l from has_put_other(Ne.symm hx) _,zD4 hk val l k];constructor
   ·rintro⟨i,hi,e⟩;exact⟨i,by omega,e⟩
   ·rintro⟨i,hi,e⟩;by_cases h:i=k
    ·subst h;exact absurd e hx
    ·exact⟨i,by omega,e⟩
theorem zGe{key:Nat->Lit}(hk:zDj key)(val:Nat->Value){l:Lit}{k:Nat}(h:∀i,i<k->key i≠l)(z:DataW Value):(putD key val k).atKey l z=z:=by
 refine atKey_of_not_has ?_ _;rw [Bool.eq_false_iff];intro hh;obtain⟨i,hi,e⟩:=(zD4 hk val l k).1 hh;exact h i hi e
theorem zKO{key:Nat->Lit}(hk:zDj key)(val:Nat->Value)(z:DataW Value):∀k i,i<k->(∀j,i<j->j<k->key j≠key i)->(putD key val k).atKey(key i) z = .held(val i)
 |0,i,hi,_=>absurd hi(Nat.not_lt_zero _)
 |k+1,i,hi,hd=>by
  by_cases e:i=k
  ·subst e;exact atKey_put_same(zCN hk val i).isMap(hk i) _ _
  ·exact(atKey_put_other(Ne.symm(hd k(by omega)(by omega))) _ _).trans(zKO hk val z k i(by omega)(fun j h1 h2=>hd j h1(by omega)))
def zFd(n:Nat)(key:Nat->Lit):Prop:=∀i,i<n->∀k,k<i->key k≠key i
theorem zFF{k:Nat}{f:Nat->Lit}:zFd(k+1) f↔zFd k f/\∀i,i<k->f i≠f k:=by
 constructor
 ·exact fun h=>⟨fun i hi=>h i(by omega),fun i hi=>h k(by omega) i hi⟩
 ·rintro⟨h1,h2⟩ i hi j hj;by_cases e:i=k
  ·subst e;exact h2 j hj
  ·exact h1 i(by omega) j hj
theorem zGi{key:Nat->Lit}(hk:zDj key)(val:Nat->Value):∀k,Maps.size(putD key val k)<=k/\(Maps.size(putD key val k)=k↔zFd k key)
 |0=>⟨Nat.le_refl _,fun _ i hi=>by omega,fun _=>rfl⟩
 |k+1=>by
  obtain⟨h1,h2⟩:=zGi hk val k;have e:Maps.size(putD key val(k+1))=if Maps.has(putD key val k)(key k)then Maps.size(putD key val k)else Maps.size(putD key val k)+1:=size_put(zCN hk val k) _
  by_cases hh:Maps.has(putD key val k)(key k)=true
  ·rw [if_pos hh] at e;rw [e,zFF];refine⟨by omega,fun h=>by omega,fun h=>?_⟩;obtain⟨i,hi,he⟩:=(zD4 hk val(key k) k).1 hh;exact absurd he(h.2 i hi)
  ·rw [if_neg hh] at e;rw [e,zFF,<-h2];refine⟨by omega,fun h=>⟨by omega,fun i hi he=>hh((zD4 hk val(key k) k).2 ⟨i,hi,he⟩)⟩,fun h=>by omega⟩
theorem zD7(n:Int)(w:World):Calls Tryz.prog 202 #[.int .i64 n] w fun e w'=>zG(zBu n 1 900000) e/\w'=w:=by
 by_cases h1:1<=n
 ·by_cases h2:n<=900000
  ·go_enter Tryz.func202,Tryz.ntmps202;go_wp2;go_ret;exact⟨zG.yes ⟨h1,h2⟩,rfl⟩
  ·go_enter Tryz.func202,Tryz.ntmps202;go_wp2;go_ret;exact⟨zG.no fun h=>by have:=h.2;omega,rfl⟩
 ·go_enter Tryz.func202,Tryz.ntmps202;go_wp2;go_ret;exact⟨zG.no fun h=>by have:=h.1;omega,rfl⟩
def Mid(a x b:Int):Prop:=a<x/\x<b
theorem zG0(a x b:Int)(w:World):Calls Tryz.prog 222 #[.int .i64 a,.int .i64 x,.int .i64 b] w fun e w'=>zG(Mid a x b) e/\w'=w:=by
 by_cases h1:a<x
 ·by_cases h2:x<b
  ·go_enter Tryz.func222,Tryz.ntmps222;go_wp2;go_ret;exact⟨zG.yes ⟨h1,h2⟩,rfl⟩
  ·go_enter Tryz.func222,Tryz.ntmps222;go_wp2;go_ret;exact⟨zG.no fun h=>by have:=h.2;omega,rfl⟩
 ·go_enter Tryz.func222,Tryz.ntmps222;go_wp2;go_ret;exact⟨zG.no fun h=>by have:=h.1;omega,rfl⟩
def zD8(f:Nat->qC):Nat->ByteArray
 |0=>⟨#[]⟩
 |k+1=>(f k).name
def zQT(n:Nat)(f:Nat->qC):Prop:=n<=8/\∀i,i<n->yM(f i).name/\zDP(zD8 f i)(f i).name
theorem zIp(v:Value)(n lo hi:Nat)(f:Nat->qC)(w:World)(h:yZ w lo hi v n f) :
  Calls Tryz.prog 203 #[v] w fun e w'=>zG(zQT n f) e/\Below w.heap.size w w':=by
 have Hp:=zB h;obtain⟨m1,a,c,rfl,mc,-⟩:=id h;unfold maxLen at m1;clear h;by_cases hn:n<=8;rotate_left
 ·have fA:(8:Int)<(n:Int):=(by omega);go_enter Tryz.func203,Tryz.ntmps203;go_wp2;go_ret;exact⟨zG.no fun h=>hn h.1,Below.refl _ _⟩
 have fA:¬(8:Int)<(n:Int):=by omega
 go_enter Tryz.func203,Tryz.ntmps203;go_wp2
 go_loopw [3,11](fun l i wr=>∃k:Nat,k<=n/\i = .int .i64 k/\l = .string(zD8 f k)/\(∀j,j<k->yM(f j).name/\zDP(zD8 f j)(f j).name)/\Below w.heap.size w wr)(fun _ i _=>n - (intOf i).toNat)
 case atStart=>exact⟨0,Nat.zero_le _,rfl,rfl,fun j hj=>absurd hj(Nat.not_lt_zero _),Below.refl _ _⟩
 case round=>
  obtain⟨k,hk,rfl,rfl,hall,hb⟩:=hrel;have aA:=zB hall;clear hall;by_cases bA:k<n;rotate_left
  ·obtain rfl:k=n:=(by omega);go_wp2;go_ret;exact⟨zG.yes ⟨hn,aA.out⟩,hb⟩
  have gA:(k:Int)<(n:Int):=(by omega);obtain⟨b,off,vd,rfl,hs2⟩:=(Hp.out.zRJ hb).cells bA;obtain⟨-,ad,cd,rfl,-,-⟩:=id hs2.zRX;have dA:=zC wr(.cells #[.string(f k).name,.int .i64(f k).origin,.int .i64(f k).zRT,.int .i64(f k).rs,.int .i64(f k).rb,.slice ad(f k).dn cd] 67);have eA:=zB(zi.zRL wr(.string(f k).name)(.int .i64(f k).origin)(.int .i64(f k).zRT)(.int .i64(f k).rs)(.int .i64(f k).rb)(.slice ad(f k).dn cd) 67);have cA:=zA hb dA;have q0:=hs2.c0;have q1:=hs2.c1;have q2:=hs2.c2;have q3:=hs2.c3;have q4:=hs2.c4;have q5:=hs2.c5;have iA:=hs2.zRZ;obtain⟨⟨y0,y1⟩,-⟩:=eA.out;clear hs2 dA;go_wp2_with fail;clear q0 q1 q2 q3 q4 q5;refine(zDW(f k).name _ iA).mono ?_;rintro e wn ⟨⟨tn,rfl,htn⟩,rfl⟩;by_cases hA:yM(f k).name;rotate_left
  ·have Hn:=zB hA;obtain rfl:tn=false:=zQ htn hA;clear htn hA;go_wp2;go_ret;exact⟨zG.no fun h=>Hn.out(h.2 k bA).1,cA⟩
  have HA:=zB hA;obtain rfl:tn=true:=htn.2 hA;clear htn hA;by_cases hR:zDP(zD8 f k)(f k).name
  ·have f1:=(zNV(f k).name(zD8 f k)).2 hR;have HR:=zB hR;clear hR;go_wp2;go_roundw
   case rel=>exact⟨k+1,by omega,by go_num,rfl,zo bA aA.out ⟨HA.out,HR.out⟩,cA⟩
   case measure=>simp [intOf];omega
  ·have f1:(Op.bytesLess(f k).name.toList(zD8 f k).toList || (f k).name.toList == (zD8 f k).toList)=true:=by
    cases hc:(Op.bytesLess(f k).name.toList(zD8 f k).toList || (f k).name.toList == (zD8 f k).toList)
    ·exact absurd((zNV _ _).1 hc) hR
    ·rfl
   have HR:=zB hR;clear hR;go_wp2;go_ret;exact⟨zG.no fun h=>HR.out(h.2 k bA).2,cA⟩
theorem zOm:laidOutB Tryz.prog=true:=by kernel_rfl
theorem zQX:300<=Tryz.prog.types.size+300 - 1/\1<=Tryz.prog.types.size:=by
 have h:decide(1<=Tryz.prog.types.size)=true:=by kernel_rfl
 have:=of_decide_eq_true h;omega
theorem zO8{k:Nat}(h:decide(k<Tryz.prog.types.size)=true):k<Tryz.prog.types.size:=of_decide_eq_true h
theorem zRI:Tryz.prog.underlying 9=some .string:=by kernel_rfl
theorem zQ2:Tryz.prog.underlying 2=some(.int .i64):=by kernel_rfl
theorem zOv:Keyed Tryz.prog 9:=string_keyed zRI
theorem zQx:Keyed Tryz.prog 2:=int_keyed zQ2
def zCq(s:ByteArray):Lit:=.string s.data.toList
theorem zKI{s:ByteArray}(h:s.size<=maxLen):keyOf Tryz.prog 9(.string s)=some(zCq s):=by simp [keyOf,mapKey,zCq,h]
theorem zO7{s t:ByteArray}(h:zCq s=zCq t):s=t:=by
 unfold zCq at h;injection h with h;cases s;cases t;simp only [ByteArray.mk.injEq];exact Array.toList_inj.1 h
theorem zLp(s:ByteArray):WideAt.IsKeyLit(zCq s):=trivial
def zKa(x:Int):Lit:=.int .i64 x
theorem zNb{x:Int}(h:(Lit.int .i64 x).wf=true):keyOf Tryz.prog 2(.int .i64 x)=some(zKa x):=keyOf_int_mk zQ2 h
theorem zLV{x y:Int}(h:zKa x=zKa y):x=y:=by unfold zKa at h;injection h
theorem zPL(x:Int):WideAt.IsKeyLit(zKa x):=trivial
theorem zQ6:Tryz.prog.underlying 266=some(.array 2 9):=by kernel_rfl
theorem zQg:Keyed Tryz.prog 266:=Keyed.of_law(deep_law_laid zOm(m:=5)(by decide)(zO8(by kernel_rfl))(by kernel_rfl)(by kernel_rfl))
theorem zP6{s t:ByteArray}(hs:s.size<=maxLen)(ht:t.size<=maxLen):∃l,keyOf Tryz.prog 266(.agg #[.string s,.string t])=some l:=by
 obtain⟨m,hm⟩:∃m,Tryz.prog.types.size+1=m+2:=⟨Tryz.prog.types.size - 1,by have:=zQX;omega⟩;have hk:Tryz.prog.keyType 266=true:=by kernel_rfl
 have hc:Tryz.prog.cellsOf 266=2:=by kernel_rfl
 have h1:Tryz.prog.cellsOf 9=1:=by kernel_rfl
 unfold keyOf;simp only [zQ6];rw [if_pos(by simp [hk,Value.formed,hc]),hm];unfold Program.keyLits;simp only [zQ6,Value.cells];rw [if_pos(by rw [hc];rfl),show List.range 2 = [0,1] from rfl,List.mapM_cons,List.mapM_cons,List.mapM_nil];simp [h1,Program.keyLits,hs,ht]
theorem zQ9:Tryz.prog.underlying 61=some(.struct #[⟨"Slot",2,0,false, "", "",0⟩,⟨"Birth",2,1,false, "", "",8⟩]):=by kernel_rfl
theorem zQk:Keyed Tryz.prog 61:=Keyed.of_law(deep_law_laid zOm(m:=5)(by decide)(zO8(by kernel_rfl))(by kernel_rfl)(by kernel_rfl))
theorem zP3{x y:Int}(hx:(Lit.int .i64 x).wf=true)(hy:(Lit.int .i64 y).wf=true):∃l,keyOf Tryz.prog 61(.agg #[.int .i64 x,.int .i64 y])=some l:=by
 obtain⟨m,hm⟩:∃m,Tryz.prog.types.size+1=m+2:=⟨Tryz.prog.types.size - 1,by have:=zQX;omega⟩;have hk:Tryz.prog.keyType 61=true:=by kernel_rfl
 have hc:Tryz.prog.cellsOf 61=2:=by kernel_rfl
 have h1:Tryz.prog.cellsOf 2=1:=by kernel_rfl
 unfold keyOf;simp only [zQ9];rw [if_pos(by simp [hk,Value.formed,hc]),hm];unfold Program.keyLits;simp only [zQ9,Value.cells];rw [if_pos ⟨by rw [hc];rfl,by kernel_rfl⟩];simp [h1,Program.keyLits,hx,hy]
def zDH(vd:Value)(s:qC):Value:=.agg #[.string s.name,.int .i64 s.origin,.int .i64 s.zRT,.int .i64 s.rs,.int .i64 s.rb,vd]
def yg(vd:Value)(s:zm):Value:=.agg #[.int .i64 s.id,.string s.name,.string s.set,.int .i64 s.zRT,.int .i64 s.time,.int .i64 s.rs,.int .i64 s.rb,vd]
def zLh(w:World)(lo hi n:Nat)(f:Nat->qC)(vd:Nat->Value):Prop:=∀i,i<n->zR w lo hi(vd i)(f i).dn(f i).ds(f i).db
def zEa(w:World)(lo hi n:Nat)(f:Nat->zm)(vd:Nat->Value):Prop:=∀i,i<n->zR w lo hi(vd i)(f i).dn(f i).ds(f i).db
open Classical in
theorem yZ.vals{w:World}{lo hi:Nat}{a:Option Addr}{n c:Nat}{f:Nat->qC}(h:yZ w lo hi(.slice a n c) n f):∃vd:Nat->Value,zLh w lo hi n f vd/\∀i,i<n->∃b off,a=some ⟨b,off,none⟩/\zBP w b(off+i*6) lo hi(vd i)(f i):=by
 have hx:∀i,∃v,i<n->∃b off,a=some ⟨b,off,none⟩/\zBP w b(off+i*6) lo hi v(f i):=fun i=>by
  by_cases hi':i<n
  ·obtain⟨b,off,vd,ha,hs⟩:=h.cells hi';exact⟨vd,fun _=>⟨b,off,ha,hs⟩⟩
  ·exact⟨undef,fun h=>absurd h hi'⟩
 refine⟨fun i=>(hx i).choose,fun i hi'=>?_,fun i hi'=>(hx i).choose_spec hi'⟩;obtain⟨b,off,_,hs⟩:=(hx i).choose_spec hi';exact hs.zRX
open Classical in
theorem qz.vals{w:World}{lo hi:Nat}{a:Option Addr}{n c:Nat}{f:Nat->zm}(h:qz w lo hi(.slice a n c) n f):∃vd:Nat->Value,zEa w lo hi n f vd/\∀i,i<n->∃b off,a=some ⟨b,off,none⟩/\zAk w b(off+i*8) lo hi(vd i)(f i):=by
 have hx:∀i,∃v,i<n->∃b off,a=some ⟨b,off,none⟩/\zAk w b(off+i*8) lo hi v(f i):=fun i=>by
  by_cases hi':i<n
  ·obtain⟨b,off,vd,ha,hs⟩:=h.cells hi';exact⟨vd,fun _=>⟨b,off,ha,hs⟩⟩
  ·exact⟨undef,fun h=>absurd h hi'⟩
 refine⟨fun i=>(hx i).choose,fun i hi'=>?_,fun i hi'=>(hx i).choose_spec hi'⟩;obtain⟨b,off,_,hs⟩:=(hx i).choose_spec hi';exact hs.zRX
theorem zLa:Tryz.prog.underlying 177=some(.map 9 67):=by kernel_rfl
theorem zPZ:Tryz.prog.underlying 218=some(.map 2 99):=by kernel_rfl
theorem zPq:Tryz.prog.underlying 265=some(.map 266 2):=by kernel_rfl
def zBt(w:World)(W:zH)(M n:Nat)(vd:Nat->Value):Prop:=w.ownsMap Tryz.prog 9 zCH M n(putD(fun i=>zCq(W.zRS i).name)(fun i=>zDH(vd i)(W.zRS i)) n)
def zCk(w:World)(W:zH)(M n:Nat)(vd:Nat->Value):Prop:=w.ownsMap Tryz.prog 2 zCH M n(putD(fun i=>zKa(W.zRP i).id)(fun i=>yg(vd i)(W.zRP i)) n)
theorem zBt.zRJ{w w':World}{W:zH}{M n:Nat}{vd:Nat->Value}(h:zBt w W M n vd)(t:Below w.heap.size w w'):zBt w' W M n vd:=h.kept(yu t none)(by simp)
theorem zCk.zRJ{w w':World}{W:zH}{M n:Nat}{vd:Nat->Value}(h:zCk w W M n vd)(t:Below w.heap.size w w'):zCk w' W M n vd:=h.kept(yu t none)(by simp)
theorem zEQ(v0 v1 v2 v3:Value)(lo hi:Nat)(W:zH)(w:World)(h:zl w lo hi v0 v1 v2 v3 W)(hn:W.sn<=8) :
  Calls Tryz.prog 129 #[zz v0 v1 v2 v3 W] w fun e w'=>∃vd,e = .returned(.map(some(w.heap.size+1)))/\zBt w' W(w.heap.size+1) W.sn vd/\zLh w lo hi W.sn W.zRS vd/\Below w.heap.size w w':=by
 have Hp:=zB h;obtain⟨m1,a,c,rfl,mc,-⟩:=id h.zRS;unfold maxLen at m1;obtain⟨vd,hvd,hcs⟩:=h.zRS.vals;have rA:=zB hvd;have oA:=zB hcs;clear h hvd hcs;have ha:=zC w(.cells #[v0,v1,.int .i64 W.time,.int .i64 W.next,.slice a W.sn c,v3] 37);have HB:=zB(zi.zRL w v0 v1(.int .i64 W.time)(.int .i64 W.next)(.slice a W.sn c) v3 37);have gA:(w.alloc(.cells #[v0,v1,.int .i64 W.time,.int .i64 W.next,.slice a W.sn c,v3] 37)).heap.size=w.heap.size+1:=World.size_alloc _ _;have hm:=World.ownsMap_made(w.alloc(.cells #[v0,v1,.int .i64 W.time,.int .i64 W.next,.slice a W.sn c,v3] 37)) Tryz.prog 9 zCH;rw [gA] at hm;have HM:=zB hm;have jA:=zB(HB.out.zRJ(zC _(.map #[] 0)));have kA:=zB(zA ha(zC _(.map #[] 0)));have tA:=@run_makeMap Tryz.prog;obtain⟨⟨x0,-⟩,⟨x2,-⟩,⟨x4,-⟩,⟨x6,-⟩,⟨x8,-⟩,⟨x10,-⟩⟩:=jA.out;clear hm;go_enter Tryz.func129,Tryz.ntmps129;go_wp2;clear x0 x2 x4 x6 x8 x10 ha
 go_loopw [10](fun i wr=>∃k:Nat,k<=W.sn/\i = .int .i64 k/\zBt wr W(w.heap.size+1) k vd/\Below w.heap.size w wr/\w.heap.size+2<=wr.heap.size)(fun i _=>W.sn - (intOf i).toNat)
 case atStart=>exact⟨0,Nat.zero_le _,rfl,HM.out,kA.out,by rw [World.size_alloc,gA];omega⟩
 case round=>
  clear HM jA kA HB gA;obtain⟨k,hk,rfl,hown,hb,hz⟩:=hrel;have cA:=zB hown;clear hown;by_cases nA:k<W.sn
  ·have sA:(k:Int)<(W.sn:Int):=(by omega);obtain⟨b,off,rfl,hs0⟩:=oA.out k nA;have bA:=hs0.zRJ hb;obtain⟨-,ad,cd,hvk,-,-⟩:=id bA.zRX;have mA:=zB hvk;rw [hvk] at bA;clear hvk hs0;have fA:=zC wr(.cells #[.string(W.zRS k).name,.int .i64(W.zRS k).origin,.int .i64(W.zRS k).zRT,.int .i64(W.zRS k).rs,.int .i64(W.zRS k).rb,.slice ad(W.zRS k).dn cd] 67);have pA:=zB(zi.zRL wr(.string(W.zRS k).name)(.int .i64(W.zRS k).origin)(.int .i64(W.zRS k).zRT)(.int .i64(W.zRS k).rs)(.int .i64(W.zRS k).rb)(.slice ad(W.zRS k).dn cd) 67);have lA:=zA hb fA;have q0:=bA.c0;have q1:=bA.c1;have q2:=bA.c2;have q3:=bA.c3;have q4:=bA.c4;have q5:=bA.c5;have iA:=zB(zKI bA.zRZ);obtain⟨⟨y0,y1⟩,⟨y2,y3⟩,⟨y4,y5⟩,⟨y6,y7⟩,⟨y8,y9⟩,⟨y10,y11⟩⟩:=pA.out;have dA:=zB(cA.out.zRJ fA);have vA:=fA.size;clear bA fA;go_wp2_with(first
    |(at_mapUpdate;refine wpList_mapUpdate_own _ rfl _ _ _ 177 rfl 9 67 zOv zLa zCH(w.heap.size+1) k _ rfl dA.out(by unfold maxLen;omega) _ _ _ rfl rfl iA.out _ [](zBy _) ?_;intro w1 eA aA)
    |go_in)
   go_roundw
   case rel=>
    refine⟨k+1,by omega,by go_num,?_,lA.grown aA lA.size(fun j hj=>by cases hj;omega),by have:=aA.size;omega⟩;unfold zBt putD zDH;rw [mA.out];exact eA
   case measure=>simp [intOf];omega
  ·obtain rfl:k=W.sn:=(by omega);go_wp2;go_ret;exact⟨vd,rfl,cA.out,rA.out,hb⟩
end Go.Proofs.YtmgeglgboadfiaaGreatDoor
