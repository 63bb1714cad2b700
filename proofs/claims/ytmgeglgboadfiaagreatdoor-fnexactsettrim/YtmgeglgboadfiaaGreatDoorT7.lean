/- The line of a set by Prev, as plain facts (no law is proved here). -/
import Derived.Test.YtmgeglgboadfiaaGreatDoorT6
import Derived.WideKeyPair
import Derived.DeepKeys4
set_option linter.unusedVariables false
set_option maxRecDepth 20000
set_option maxHeartbeats 4000000
namespace Go.Proofs.YtmgeglgboadfiaaGreatDoor
open Go.RowKit Go.Maps
open Classical in
noncomputable def yt(W:zH)(name:ByteArray):Nat->Nat
 |0=>0
 |k+1=>yt W name k+(if (W.zRP k).set=name then 1 else 0)
theorem zIH{W:zH}{name:ByteArray}{k:Nat}(h:(W.zRP k).set=name):yt W name (k+1)=yt W name k+1:=by simp[yt,h]
theorem zKL{W:zH}{name:ByteArray}{k:Nat}(h:¬(W.zRP k).set=name):yt W name (k+1)=yt W name k:=by simp[yt,h]
theorem zHL(W:zH)(name:ByteArray):∀k,yt W name k<=k
 |0=>Nat.le_refl _
 |k+1=>by
  have:=zHL W name k;by_cases h:(W.zRP k).set=name
  ·rw[zIH h];omega
  ·rw[zKL h];omega
inductive Steps (W:zH) (name:ByteArray) (start:Int):Nat->Int->Prop
 |zero:Steps W name start 0 start
 |next {n:Nat} {x:Int} {k:Nat}:Steps W name start n x->yA W x k->(W.zRP k).set=name->Steps W name start (n+1) (W.zRP k).zRT
def zFi(W:zH)(name:ByteArray)(x:Int):Prop:=∃k,yA W x k/\(W.zRP k).set=name
def zBc(W:zH)(name:ByteArray)(start origin:Int):Prop:=∃n e,Steps W name start n e/\¬zFi W name e/\n=yt W name W.pn/\e=origin
theorem Steps.det{W:zH}{name:ByteArray}{start:Int}:∀{n:Nat} {x y:Int},Steps W name start n x->Steps W name start n y->x=y
 |0,_,_,.zero,.zero=>rfl
 |n+1,_,_,.next h hk _,.next h' hk' _=>by
  have e:=Steps.det h h';subst e;rw[yA.uniq hk hk']
theorem Steps.less{W:zH}{name:ByteArray}{start:Int}:∀{n m:Nat} {x:Int},Steps W name start m x->n<m->∃y,Steps W name start n y/\zFi W name y
 |n,0,_,_,h=>absurd h (Nat.not_lt_zero _)
 |n,m+1,_,.next (x:=x) h hk hs,hl=>by
  by_cases e:n=m
  ·subst e;exact⟨x,h,_,hk,hs⟩
  ·exact Steps.less h (by omega)
theorem Steps.end{W:zH}{name:ByteArray}{start:Int}{n m:Nat}{x y:Int}(h:Steps W name start n x)(hx:¬zFi W name x)(h':Steps W name start m y)(hy:¬zFi W name y):n=m/\x=y:=by
 have e:n=m:=by
  rcases Nat.lt_trichotomy n m with hl | hl | hl
  ·obtain⟨z,hz,ho⟩:=h'.less hl;rw[h.det hz]at hx;exact absurd ho hx
  ·exact hl
  ·obtain⟨z,hz,ho⟩:=h.less hl;rw[h'.det hz]at hy;exact absurd ho hy
 subst e;exact⟨rfl,h.det h'⟩
theorem zCS{W:zH}{name:ByteArray}{start origin:Int}{n:Nat}{x:Int}(h:Steps W name start n x)(hx:¬zFi W name x):zBc W name start origin↔n=yt W name W.pn/\x=origin:=by
 constructor
 ·rintro⟨m,y,hs,hy,h1,h2⟩;obtain⟨rfl,rfl⟩:=h.end hx hs hy;exact⟨h1,h2⟩
 ·rintro⟨h1,h2⟩;exact⟨n,x,h,hx,h1,h2⟩
theorem zHV{W:zH}{x r:Int}{k:Nat}(hk:yA W x k)(h:zF6 W.pn (fun k=>(W.zRP k).id=x) r):r=(k:Int):=by
 rcases h with⟨j,hj,e,hm,rfl⟩ | ⟨hn,_⟩
 ·rw[yA.uniq hk ⟨hj,e,hm⟩]
 ·exact absurd hk.2.1 (hn k hk.1)
theorem qs.no{W:zH}{x:Int}(h:qs W x):∃k,yA W x k:=zGe (Nat.le_refl _) h
structure zB3 (W:zH):Prop where
 ids:∀k,k<W.pn->1<=(W.zRP k).id/\(W.zRP k).id<900000
 zRT:∀k,k<W.pn->(W.zRP k).zRT=0\/qs W (W.zRP k).zRT
 less:∀k,k<W.pn->(W.zRP k).zRT<(W.zRP k).id
 zRS:∀k,k<W.sn->(W.zRS k).zRT=0\/qs W (W.zRS k).zRT
 zRa:∀k,k<W.sn->(W.zRS k).name.toList.isEmpty=false
theorem zB3.pos{W:zH}(h:zB3 W):zCo W:=fun k hk=>(h.ids k hk).1
theorem qs.range{W:zH}(h:zB3 W){x:Int}(hx:qs W x):1<=x/\x<900000:=by
 obtain⟨k,hk,rfl⟩:=hx;exact h.ids k hk
theorem zC9{s:ByteArray}(h:yM s):s.toList.isEmpty=false:=by
 have:=h.1;rw[Go.ByteArray.toList_eq];cases s with
 |mk d=>
  cases hd:d.toList with
  |nil=>
   have h0:d.size=0:=(by rw[<-Array.length_toList,hd];rfl);have h1:1<=d.size:=this;omega
  |cons a l=>simp
theorem zBI.prevOk{W:zH}(h:zBI W):zB3 W where
 ids:=fun k hk=>⟨(h.2.2.2.2.2 k hk).1.1,by have:=(h.2.2.2.2.2 k hk).1.2.1;have:=h.2.1.2;omega⟩
 zRT:=fun k hk=>by
  by_cases e:(W.zRP k).zRT=0
  ·exact Or.inl e
  ·exact Or.inr ((h.2.2.2.2.2 k hk).2.1.2 e).2
 less:=fun k hk=>by
  by_cases e:(W.zRP k).zRT=0
  ·have:=(h.2.2.2.2.2 k hk).1.1;omega
  ·exact((h.2.2.2.2.2 k hk).2.1.2 e).1
 zRS:=fun k hk=>by
  by_cases e:(W.zRS k).zRT=0
  ·exact Or.inl e
  ·exact Or.inr ((h.2.2.2.2.1 k hk).2.2.1 e)
 zRa:=fun k hk=>zC9 (h.2.2.2.2.1 k hk).1
structure zCk (W:zH) (name:ByteArray) (start:Int) (n:Nat) (x:Int):Prop where
 steps:Steps W name start n x
 there:x=0\/qs W x
 least:0<=x
 sum:(n:Int)+x<=900000
theorem zCk.start{W:zH}(h:zB3 W)(name:ByteArray){x:Int}(hx:x=0\/qs W x):zCk W name x 0 x where
 steps:=.zero
 there:=hx
 least:=by rcases hx with rfl | hx;exact Int.le_refl _;have:=hx.range h;omega
 sum:=by rcases hx with rfl | hx;decide;have:=hx.range h;omega
theorem zCk.next{W:zH}(h:zB3 W){name:ByteArray}{start:Int}{n:Nat}{x:Int}(hw:zCk W name start n x){k:Nat}(hk:yA W x k)(hs:(W.zRP k).set=name):zCk W name start (n+1) (W.zRP k).zRT where
 steps:=hw.steps.next hk hs
 there:=h.zRT k hk.1
 least:=by rcases h.zRT k hk.1 with e | e;omega;have:=e.range h;omega
 sum:=by have h1:=h.less k hk.1;have h2:=hw.sum;have h3:=hk.2.1;omega
theorem zKw{W:zH}(h:zB3 W)(name:ByteArray):¬zFi W name 0:=fun ⟨k,hk,_⟩=>by
 have:=(h.ids k hk.1).1;have:=hk.2.1;omega
theorem zMf{W:zH}{name:ByteArray}{x:Int}{k:Nat}(hk:yA W x k)(hs:¬(W.zRP k).set=name):¬zFi W name x:=fun ⟨j,hj,e⟩=>hs (by rw[yA.uniq hk hj];exact e)
theorem zIt(v0 v1 v2 v3:Value)(lo hi:Nat)(W:zH)(w:World)(h:zl w lo hi v0 v1 v2 v3 W)(hP:zB3 W)(hs:W.sn<=8)(hp:W.pn<=20) :
  Calls Tryz.prog 70 #[zz v0 v1 v2 v3 W] w fun e w'=>zG (∀i,i<W.sn->zBc W (W.zRS i).name (W.zRS i).zRT (W.zRS i).origin) e/\Below w.heap.size w w':=by
 have Hp:=zB h;have HP:=zB hP;obtain⟨m1,a,c,rfl,mc,-⟩:=id h.zRP;obtain⟨m2,a',c',rfl,tB,-⟩:=id h.zRS;unfold maxLen at m1 m2;clear h hP;have ha:=zC w (.cells #[v0,v1,.int .i64 W.time,.int .i64 W.next,.slice a' W.sn c',.slice a W.pn c] 37);have HB:=zB (zi.zRL w v0 v1 (.int .i64 W.time) (.int .i64 W.next) (.slice a' W.sn c') (.slice a W.pn c) 37);go_enter Tryz.func70,Tryz.ntmps70;go_wp2
 go_loopw [3] (fun i wr=>∃k:Nat,k<=W.sn/\i = .int .i64 k/\(∀j,j<k->zBc W (W.zRS j).name (W.zRS j).zRT (W.zRS j).origin)/\zi wr w.heap.size v0 v1 (.int .i64 W.time) (.int .i64 W.next) (.slice a' W.sn c') (.slice a W.pn c)/\Below w.heap.size w wr) (fun i _=>W.sn - (intOf i).toNat)
 case atStart=>exact⟨0,Nat.zero_le _,rfl,fun j hj=>absurd hj (Nat.not_lt_zero _),HB.out,ha⟩
 case round=>
  obtain⟨k,hk,rfl,oA,hX,hb⟩:=hrel;have fA:=zB oA;have HX:=zB hX;clear oA hX ha HB;obtain⟨⟨x0,-⟩,⟨x2,-⟩,⟨x4,-⟩,⟨x6,-⟩,⟨x8,-⟩,⟨iA,-⟩⟩:=HX.out;by_cases cA:k<W.sn;rotate_left
  ·obtain rfl:k=W.sn:=(by omega);go_wp2;go_ret;exact⟨zG.yes fA.out,hb⟩
  have mB:(k:Int)<(W.sn:Int):=(by omega);obtain⟨b,off,vd,rfl,-⟩:=(Hp.out.zRS.zRJ hb).cells cA;go_wp2;clear x0 x2 x4 x6 x8 iA
  go_loopw [5,6] (fun o i wr=>∃j:Nat,j<=W.pn/\i = .int .i64 j/\o = .int .i64 (yt W (W.zRS k).name j)/\zi wr w.heap.size v0 v1 (.int .i64 W.time) (.int .i64 W.next) (.slice (some ⟨b,off,none⟩) W.sn c') (.slice a W.pn c)/\Below w.heap.size w wr) (fun _ i _=>W.pn - (intOf i).toNat)
  case atStart=>exact⟨0,Nat.zero_le _,rfl,rfl,HX.out,hb⟩
  case round=>
   clear HX hb;obtain⟨j,hj,rfl,rfl,hX,hb⟩:=hrel;have HX:=zB hX;clear hX;obtain⟨⟨x0,-⟩,⟨x2,-⟩,⟨x4,-⟩,⟨x6,-⟩,⟨x8,-⟩,⟨iA,-⟩⟩:=HX.out;obtain⟨b',dB,oB,e',eA⟩:=(Hp.out.zRS.zRJ hb).cells cA;cases e';have n0:=eA.c0;have n1:=eA.c1;have n2:=eA.c2;clear eA;have sB:=zHL W (W.zRS k).name j;by_cases pB:j<W.pn
   ·have jB:(j:Int)<(W.pn:Int):=(by omega);obtain⟨b2,aA,lB,rfl,kA⟩:=(Hp.out.zRP.zRJ hb).cells pB;have q2:=kA.c2;clear kA;have aC:((yt W (W.zRS k).name j:Nat):Int)<1000:=(by omega);by_cases he:(W.zRP j).set=(W.zRS k).name
    ·have f1:=zCU he;have H1:=zB (zIH he);clear he;go_wp2
     go_quiet (fail)
     go_wp2;go_roundw
     case rel=>exact⟨j+1,by omega,by go_num,by rw[H1.out];go_num,HX.out.zRJ (zg (Below.refl _ _) _),zg hb _⟩
     case measure=>simp[intOf];omega
    ·have f1:=zD5 he;have H1:=zB (zKL he);clear he;go_wp2
     go_quiet (fail)
     go_wp2;go_roundw
     case rel=>exact⟨j+1,by omega,by go_num,by rw[H1.out],HX.out.zRJ (zg (Below.refl _ _) _),zg hb _⟩
     case measure=>simp[intOf];omega
   ·obtain rfl:j=W.pn:=(by omega);go_wp2;clear x0 x2 x4 x6 x8 iA n0 n1 n2
    go_loopw [4,7] (fun i x wr=>∃(n:Nat) (y:Int),i = .int .i64 n/\x = .int .i64 y/\zCk W (W.zRS k).name (W.zRS k).zRT n y/\zi wr w.heap.size v0 v1 (.int .i64 W.time) (.int .i64 W.next) (.slice (some ⟨b,off,none⟩) W.sn c') (.slice a W.pn c)/\Below w.heap.size w wr) (fun _ x _=>(intOf x).toNat)
    case atStart=>exact⟨0,_,rfl,rfl,zCk.start HP.out _ (HP.out.zRS k cA),HX.out,hb⟩
    case round=>
     clear HX hb;obtain⟨n,y,rfl,rfl,hw,hX,hb⟩:=hrel;have HX:=zB hX;have Hw:=zB hw;have nB:=hw.sum;have bC:=hw.least;clear hX hw;obtain⟨⟨x0,-⟩,⟨x2,-⟩,⟨x4,-⟩,⟨x6,-⟩,⟨x8,-⟩,⟨iA,-⟩⟩:=HX.out;obtain⟨b',dB,oB,e',eA⟩:=(Hp.out.zRS.zRJ hb).cells cA;cases e';have n0:=eA.c0;have n1:=eA.c1;clear eA;by_cases hz:y=0
     ·have gA:=zB (show ¬zFi W (W.zRS k).name y by rw[hz];exact zKw HP.out _);have sA:(y == 0)=true:=(by simp[hz]);have tA:decide (y=0)=true:=(by simp[hz]);have rA:(y != 0)=false:=(by simp[hz]);clear hz;go_wp2_with fail
      go_quiet (fail)
      clear sA tA rA;have dA:=zB HX.out;clear x0 x2 x4 x6 x8 iA;obtain⟨⟨e0,-⟩,⟨e2,-⟩,⟨e4,-⟩,⟨e6,-⟩,⟨e8,-⟩,⟨aB,-⟩⟩:=dA.out;by_cases h1:n=yt W (W.zRS k).name W.pn
      ·by_cases h2:y=(W.zRS k).origin
       ·have Hl:=zB ((zCS (origin:=(W.zRS k).origin) Hw.out.steps gA.out).2 ⟨h1,h2⟩);have g1:((n:Int) == (yt W (W.zRS k).name W.pn:Int))=true:=(by simp[h1]);have g2:((n:Int) != (yt W (W.zRS k).name W.pn:Int))=false:=(by simp[h1]);have g3:decide ((n:Int)=(yt W (W.zRS k).name W.pn:Int))=true:=(by simp[h1]);have g4:(y == (W.zRS k).origin)=true:=(by simp[h2]);have g5:(y != (W.zRS k).origin)=false:=(by simp[h2]);have g6:decide (y=(W.zRS k).origin)=true:=(by simp[h2]);clear h1 h2;go_wp2;go_roundw
        case rel=>exact⟨k+1,by omega,by go_num,zo cA fA.out Hl.out,HX.out.zRJ (zg (Below.refl _ _) _),zg hb _⟩
        case measure=>simp[intOf];omega
       ·have Hl:=zB (show ¬zBc W (W.zRS k).name (W.zRS k).zRT (W.zRS k).origin from fun h=>h2 ((zCS Hw.out.steps gA.out).1 h).2);have g1:((n:Int) == (yt W (W.zRS k).name W.pn:Int))=true:=(by simp[h1]);have g2:((n:Int) != (yt W (W.zRS k).name W.pn:Int))=false:=(by simp[h1]);have g3:decide ((n:Int)=(yt W (W.zRS k).name W.pn:Int))=true:=(by simp[h1]);have g4:(y == (W.zRS k).origin)=false:=(by simp[h2]);have g5:(y != (W.zRS k).origin)=true:=(by simp[h2]);have g6:decide (y=(W.zRS k).origin)=false:=(by simp[h2]);clear h1 h2;go_wp2;go_ret;exact⟨zG.no fun hA=>Hl.out (hA k cA),zg hb _⟩
      ·have Hl:=zB (show ¬zBc W (W.zRS k).name (W.zRS k).zRT (W.zRS k).origin from fun h=>h1 ((zCS Hw.out.steps gA.out).1 h).1);have h3:¬(n:Int)=(yt W (W.zRS k).name W.pn:Int):=(by omega);have g1:((n:Int) == (yt W (W.zRS k).name W.pn:Int))=false:=(by simp[h3]);have g2:((n:Int) != (yt W (W.zRS k).name W.pn:Int))=true:=(by simp[h3]);have g3:decide ((n:Int)=(yt W (W.zRS k).name W.pn:Int))=false:=(by simp[h3]);clear h1 h3;go_wp2;go_ret;exact⟨zG.no fun hA=>Hl.out (hA k cA),zg hb _⟩
     ·obtain⟨kk,pA⟩:=(Hw.out.there.resolve_left hz).no;have lA:=zB pA;have cB:kk<W.pn:=pA.1;have iB:(kk:Int)<(W.pn:Int):=(by omega);have vA:=(HP.out.ids kk cB).1;have bB:=pA.2.1;have vB:1<=y:=(by omega);have nA:=HP.out.less kk cB;have gB:=zB (show(W.zRP kk).zRT<y by omega);clear pA vA bB nA;have sA:(y == 0)=false:=(by simp[hz]);have tA:decide (y=0)=false:=(by simp[hz]);have rA:(y != 0)=true:=(by simp[hz]);clear hz;obtain⟨b2,aA,lB,rfl,kA⟩:=(Hp.out.zRP.zRJ hb).cells cB;have q2:=kA.c2;have q3:=kA.c3;clear kA;by_cases he:(W.zRP kk).set=(W.zRS k).name
      ·have eB:=zB (Hw.out.next HP.out lA.out he);rw[he]at q2;clear he;go_wp2_with fail;go_region_held3 (fun w'=>w'.cell? ⟨w.heap.size,0,none⟩=some v0/\w'.cell? ⟨w.heap.size,1,none⟩=some v1/\w'.cell? ⟨w.heap.size,2,none⟩=some (.int .i64 W.time)/\w'.cell? ⟨w.heap.size,3,none⟩=some (.int .i64 W.next)/\w'.cell? ⟨w.heap.size,4,none⟩=some (.slice (some ⟨b,off,none⟩) W.sn c')/\w'.cell? ⟨w.heap.size,5,none⟩=some (.slice (some ⟨b2,aA,none⟩) W.pn c)/\w'.cell? ⟨b2,aA+kk*8+2,none⟩=some (.string (W.zRS k).name)/\w'.cell? ⟨b,off+k*6,none⟩=some (.string (W.zRS k).name)) (go_keep)
        (first | (go_at_call 49;refine(qH v0 v1 _ _ lo hi W y _ ?_).mono ?_;(exact(Hp.out.zRJ hb).zRJ (Below.refl _ _).drew);rintro e w6 ⟨r,rfl,hF,bA⟩;obtain rfl:=zHV lA.out hF;obtain⟨⟨y0,_⟩,⟨y1,_⟩,⟨y2,_⟩,⟨y3,_⟩,⟨y4,_⟩,⟨y5,_⟩⟩:=HX.out.zRJ (zK bA);have z2:=(bA.cell (p:=⟨b2,aA+kk*8+2,none⟩) (zD q2)).trans q2;have z0:=(bA.cell (p:=⟨b,off+k*6,none⟩) (zD n0)).trans n0))
       have dA:=zB (HX.out.zRJ (zK bA));have jA:=qi hb bA;have z3:=(bA.cell (p:=⟨b2,aA+kk*8+3,none⟩) (zD q3)).trans q3;have z1:=(bA.cell (p:=⟨b,off+k*6+1,none⟩) (zD n1)).trans n1;clear bA HX hb hF y0 y1 y2 y3 y4 y5 x0 x2 x4 x6 x8 iA q2 q3 n0 n1 sA tA rA;have rB:(n:Int)<1000000:=(by omega);obtain⟨⟨e0,-⟩,⟨e2,-⟩,⟨e4,-⟩,⟨e6,-⟩,⟨e8,-⟩,⟨aB,-⟩⟩:=dA.out;go_wp2_with fail;go_region_held3 (fun w'=>w'.cell? ⟨w.heap.size,0,none⟩=some v0/\w'.cell? ⟨w.heap.size,1,none⟩=some v1/\w'.cell? ⟨w.heap.size,2,none⟩=some (.int .i64 W.time)/\w'.cell? ⟨w.heap.size,3,none⟩=some (.int .i64 W.next)/\w'.cell? ⟨w.heap.size,4,none⟩=some (.slice (some ⟨b,off,none⟩) W.sn c')/\w'.cell? ⟨w.heap.size,5,none⟩=some (.slice (some ⟨b2,aA,none⟩) W.pn c)/\w'.cell? ⟨b2,aA+kk*8+3,none⟩=some (.int .i64 (W.zRP kk).zRT)) (go_keep)
        (first | (go_at_call 49;refine(qH v0 v1 _ _ lo hi W y _ ?_).mono ?_;(exact(Hp.out.zRJ jA).zRJ (Below.refl _ _).drew);rintro e w7 ⟨r,rfl,hF,mA⟩;obtain rfl:=zHV lA.out hF;obtain⟨⟨y0,_⟩,⟨y1,_⟩,⟨y2,_⟩,⟨y3,_⟩,⟨y4,_⟩,⟨y5,_⟩⟩:=dA.out.zRJ (zK mA);have z4:=(mA.cell (p:=⟨b2,aA+kk*8+3,none⟩) (zD z3)).trans z3))
       have kB:=zB (dA.out.zRJ (zK mA));have fB:=qi jA mA;clear mA dA jA hF y0 y1 y2 y3 y4 y5 e0 e2 e4 e6 e8 aB;go_wp2;go_roundw
       case rel=>exact⟨n+1,_,by go_num,rfl,eB.out,kB.out,fB⟩
       case measure=>simp[intOf];have:=gB.out;have:=eB.out.least;omega
      have gA:=zB (zMf lA.out he);have f1:=zD5 he;clear he;go_wp2_with fail;go_region_held3 (fun w'=>w'.cell? ⟨w.heap.size,0,none⟩=some v0/\w'.cell? ⟨w.heap.size,1,none⟩=some v1/\w'.cell? ⟨w.heap.size,2,none⟩=some (.int .i64 W.time)/\w'.cell? ⟨w.heap.size,3,none⟩=some (.int .i64 W.next)/\w'.cell? ⟨w.heap.size,4,none⟩=some (.slice (some ⟨b,off,none⟩) W.sn c')/\w'.cell? ⟨w.heap.size,5,none⟩=some (.slice (some ⟨b2,aA,none⟩) W.pn c)/\w'.cell? ⟨b2,aA+kk*8+2,none⟩=some (.string (W.zRP kk).set)/\w'.cell? ⟨b,off+k*6,none⟩=some (.string (W.zRS k).name)) (go_keep)
       (first | (go_at_call 49;refine(qH v0 v1 _ _ lo hi W y _ ?_).mono ?_;(exact(Hp.out.zRJ hb).zRJ (Below.refl _ _).drew);rintro e w6 ⟨r,rfl,hF,bA⟩;obtain rfl:=zHV lA.out hF;obtain⟨⟨y0,_⟩,⟨y1,_⟩,⟨y2,_⟩,⟨y3,_⟩,⟨y4,_⟩,⟨y5,_⟩⟩:=HX.out.zRJ (zK bA);have z2:=(bA.cell (p:=⟨b2,aA+kk*8+2,none⟩) (zD q2)).trans q2;have z0:=(bA.cell (p:=⟨b,off+k*6,none⟩) (zD n0)).trans n0))
      have dA:=zB (HX.out.zRJ (zK bA));have jA:=qi hb bA;have z3:=(bA.cell (p:=⟨b2,aA+kk*8+3,none⟩) (zD q3)).trans q3;have z1:=(bA.cell (p:=⟨b,off+k*6+1,none⟩) (zD n1)).trans n1;clear bA HX hb hF y0 y1 y2 y3 y4 y5 x0 x2 x4 x6 x8 iA q2 q3 n0 n1 sA tA rA;clear f1;obtain⟨⟨e0,-⟩,⟨e2,-⟩,⟨e4,-⟩,⟨e6,-⟩,⟨e8,-⟩,⟨aB,-⟩⟩:=dA.out;by_cases h1:n=yt W (W.zRS k).name W.pn
      ·by_cases h2:y=(W.zRS k).origin
       ·have Hl:=zB ((zCS (origin:=(W.zRS k).origin) Hw.out.steps gA.out).2 ⟨h1,h2⟩);have g1:((n:Int) == (yt W (W.zRS k).name W.pn:Int))=true:=(by simp[h1]);have g2:((n:Int) != (yt W (W.zRS k).name W.pn:Int))=false:=(by simp[h1]);have g3:decide ((n:Int)=(yt W (W.zRS k).name W.pn:Int))=true:=(by simp[h1]);have g4:(y == (W.zRS k).origin)=true:=(by simp[h2]);have g5:(y != (W.zRS k).origin)=false:=(by simp[h2]);have g6:decide (y=(W.zRS k).origin)=true:=(by simp[h2]);clear h1 h2;go_wp2;go_roundw
        case rel=>exact⟨k+1,by omega,by go_num,zo cA fA.out Hl.out,dA.out,jA⟩
        case measure=>simp[intOf];omega
       ·have Hl:=zB (show ¬zBc W (W.zRS k).name (W.zRS k).zRT (W.zRS k).origin from fun h=>h2 ((zCS Hw.out.steps gA.out).1 h).2);have g1:((n:Int) == (yt W (W.zRS k).name W.pn:Int))=true:=(by simp[h1]);have g2:((n:Int) != (yt W (W.zRS k).name W.pn:Int))=false:=(by simp[h1]);have g3:decide ((n:Int)=(yt W (W.zRS k).name W.pn:Int))=true:=(by simp[h1]);have g4:(y == (W.zRS k).origin)=false:=(by simp[h2]);have g5:(y != (W.zRS k).origin)=true:=(by simp[h2]);have g6:decide (y=(W.zRS k).origin)=false:=(by simp[h2]);clear h1 h2;go_wp2;go_ret;exact⟨zG.no fun hA=>Hl.out (hA k cA),jA⟩
      ·have Hl:=zB (show ¬zBc W (W.zRS k).name (W.zRS k).zRT (W.zRS k).origin from fun h=>h1 ((zCS Hw.out.steps gA.out).1 h).1);have h3:¬(n:Int)=(yt W (W.zRS k).name W.pn:Int):=(by omega);have g1:((n:Int) == (yt W (W.zRS k).name W.pn:Int))=false:=(by simp[h3]);have g2:((n:Int) != (yt W (W.zRS k).name W.pn:Int))=true:=(by simp[h3]);have g3:decide ((n:Int)=(yt W (W.zRS k).name W.pn:Int))=false:=(by simp[h3]);clear h1 h3;go_wp2;go_ret;exact⟨zG.no fun hA=>Hl.out (hA k cA),jA⟩
def zC8(W:zH)(i:Nat):Prop:=zDW (zO W i).dn (zO W i).ds (zO W i).db (zAQ (zCp W (zO W i)) (yU W (zO W i)))
structure zNU (W:zH):Prop where
 right:zv W.zRQ
 zRa:zBI W
 lines:∀i,i<W.sn->zBc W (W.zRS i).name (W.zRS i).zRT (W.zRS i).origin
 zRP:∀i,i<W.pn->qF W.zRQ (W.zRP i).rs (W.zRP i).rb
 zRS:∀i,i<W.sn->qF W.zRQ (W.zRS i).rs (W.zRS i).rb/\zC8 W (W.pn+i)
 zRX:∀i,i<W.pn->zC8 W i
 reach:zEc W
 born:∀i,i<zq W->zCl W i
 zRW:zGW W
theorem zPv{W:zH}(h:∀k,k<W.pn->qF W.zRQ (W.zRP k).rs (W.zRP k).rb)(x:Int):qF W.zRQ (zN W x).rs (zN W x).rb:=by
 by_cases hx:∃k,yA W x k
 ·obtain⟨k,hk⟩:=hx;rw[yB hk];exact h k hk.1
 ·have:zN W x=yP:=by
   unfold zN;rw[dif_neg hx]
  rw[this];exact Or.inl ⟨rfl,rfl⟩
theorem zHf{W:zH}(hR:zv W.zRQ)(hN:zBI W)(h1:∀i,i<W.pn->qF W.zRQ (W.zRP i).rs (W.zRP i).rb)(h2:∀i,i<W.sn->qF W.zRQ (W.zRS i).rs (W.zRS i).rb):zBH W where
 right:=hR
 ids:=hN.prevOk.less
 tree:=fun i hi=>by
  by_cases hp:i<W.pn
  ·rw[qT hp];exact h1 i hp
  ·have e:=yK W (i - W.pn);rw[show W.pn+(i - W.pn)=i by omega]at e;rw[e];unfold zq at hi;exact h2 _ (by omega)
 time:=fun i hi=>by
  by_cases hp:i<W.pn
  ·rw[qT hp];have:1<=(W.zRP i).time:=(hN.2.2.2.2.2 i hp).1.2.2.1;show 0<=(W.zRP i).time;omega
  ·have e:=yK W (i - W.pn);rw[show W.pn+(i - W.pn)=i by omega]at e;rw[e];have:1<=W.time:=hN.1.1;show 0<=W.time;omega
theorem zOF{v0 v1 v2 v3 vd:Value}{lo hi:Nat}{W:zH}{w:World}(h:zl w lo hi v0 v1 v2 v3 W)(hR:zv W.zRQ)(hO:∀k,k<W.pn->qF W.zRQ (W.zRP k).rs (W.zRP k).rb)(hP:zCo W){k:Nat}(hk:k<W.pn)(hD:zR w lo hi vd (W.zRP k).dn (W.zRP k).ds (W.zRP k).db)(w':World)(hb:Below w.heap.size w w') :
  Calls Tryz.prog 72 #[zz v0 v1 v2 v3 W,.int .i64 (W.zRP k).zRT,.agg #[.int .i64 (W.zRP k).rs,.int .i64 (W.zRP k).rb],vd] w' fun e aA=>zG (zC8 W k) e/\Below w'.heap.size w' aA:=by
 unfold zC8;rw[qT hk];exact zGp v0 v1 v2 v3 vd lo hi lo hi _ _ _ W _ _ _ _ _ w' (h.zRJ hb) (hD.zRJ hb) hR (hO k hk) (zPv hO _) hP rfl rfl
theorem zPY{v0 v1 v2 v3 vd:Value}{lo hi:Nat}{W:zH}{w:World}(h:zl w lo hi v0 v1 v2 v3 W)(hR:zv W.zRQ)(hO:∀k,k<W.pn->qF W.zRQ (W.zRP k).rs (W.zRP k).rb)(hP:zCo W){k:Nat}(hT:qF W.zRQ (W.zRS k).rs (W.zRS k).rb)(hD:zR w lo hi vd (W.zRS k).dn (W.zRS k).ds (W.zRS k).db)(w':World)(hb:Below w.heap.size w w') :
  Calls Tryz.prog 72 #[zz v0 v1 v2 v3 W,.int .i64 (W.zRS k).zRT,.agg #[.int .i64 (W.zRS k).rs,.int .i64 (W.zRS k).rb],vd] w' fun e aA=>zG (zC8 W (W.pn+k)) e/\Below w'.heap.size w' aA:=by
 unfold zC8;rw[yK];exact zGp v0 v1 v2 v3 vd lo hi lo hi _ _ _ W _ _ _ _ _ w' (h.zRJ hb) (hD.zRJ hb) hR hT (zPv hO _) hP rfl rfl
def zCK(v:Value):Option (DataW Value×List MemPlace):=some (.held v,[])
theorem zEF{v:Value}{d:DataW Value}{ps:List MemPlace}(h:zCK v=some (d,ps)):d = .held v:=by
 unfold zCK at h;simp only[Option.some.injEq,Prod.mk.injEq]at h;exact h.1.symm
theorem zBw(v:Value):zCK v=some (.held v,[]):=rfl
theorem zF9{P:Program}(w:World){eA:Array Oper}{aA:List Oper}{o:Oper}{a:Act}{Q:Exit->Act->World->Prop}
  (hg:o.guard=none) (m x:Operand) (t:TypeId) (hop:o.op=Op.lookup t m x false)
  (k e:TypeId) (K:Keyed P k) (ht:P.underlying t=some (.map k e)) {z:Value} (hz:(zeroValue e).run P w = .ok z w) (b n:Nat) (D:DataW Value)
  (hm:a.eval m = .map (some b)) (bA:w.ownsMap P k zCK b n D) (key:Value) (kl:Lit) (hx:a.eval x=key) (cA:keyOf P k key=some kl)
  (v:Value) (gA:D.atKey kl (.held z) = .held v) (hK:wpList P eA Q aA (a.put o.dst v) w) :
  wpList P eA Q (o :: aA) a w:=by
 refine wpList_plain hg fun K' fA=>?_
 obtain⟨v',ps,dA,hv⟩:=bA.lookup K ht hz (zBw z) cA;have e1:=zEF hv;rw[gA]at e1;injection e1 with e1;subst e1;unfold Oper.wp;simp[execOp,hop,hm,hx,dA,Result.andThen];exact fA _ _ hK
theorem zAA{P:Program}(w:World){dA:Array Oper}{aA:List Oper}{o:Oper}{a:Act}{Q:Exit->Act->World->Prop}
  (hg:o.guard=none) (m x:Operand) (t:TypeId) (hop:o.op=Op.lookup t m x true)
  (k e:TypeId) (K:Keyed P k) (ht:P.underlying t=some (.map k e)) {z:Value} (hz:(zeroValue e).run P w = .ok z w) (b n:Nat) (D:DataW Value)
  (hm:a.eval m = .map (some b)) (bA:w.ownsMap P k zCK b n D) (key:Value) (kl:Lit) (hx:a.eval x=key) (cA:keyOf P k key=some kl)
  (v:Value) (eA:D.atKey kl (.held z) = .held v) (c:Bool) (hc:Maps.has D kl=c) (hK:wpList P dA Q aA (a.put o.dst (.tuple #[v,.bool c])) w) :
  wpList P dA Q (o :: aA) a w:=by
 refine wpList_lookup_own_ok w hg m x t hop k e K ht zCK hz (.held z) [] (zBw z) b n D hm bA key kl hx cA (fun v' ps hv=>?_);have e1:=zEF hv;rw[eA]at e1;injection e1 with e1;subst e1;rw[hc];exact hK
def putD(key:Nat->Lit)(val:Nat->Value):Nat->DataW Value
 |0=>.map []
 |k+1=>(putD key val k).put (key k) (.held (val k))
def zDo(key:Nat->Lit):Prop:=∀i,WideAt.IsKeyLit (key i)
theorem zCO{key:Nat->Lit}(hk:zDo key)(val:Nat->Value):∀k,Tidy (putD key val k)
 |0=>tidy_empty
 |k+1=>(zCO hk val k).put (hk k) _
theorem zD3{key:Nat->Lit}(hk:zDo key)(val:Nat->Value)(l:Lit):∀k,Maps.has (putD key val k) l=true↔∃i,i<k/\key i=l
 |0=>by
  constructor
  ·intro h;exact absurd h (by simp[putD,Maps.has])
  ·rintro⟨i,hi,_⟩;omega
 |k+1=>by
  by_cases hx:key k=l
  ·subst hx;exact⟨fun _=>⟨k,by omega,rfl⟩,fun _=>has_put_same (zCO hk val k).isMap (hk k) _⟩
  ·rw[show Maps.has (putD key val (k+1)) l=Maps.has (putD key val k) l from has_put_other (Ne.symm hx) _,zD3 hk val l k];constructor
   ·rintro⟨i,hi,e⟩;exact⟨i,by omega,e⟩
   ·rintro⟨i,hi,e⟩;by_cases h:i=k
    ·subst h;exact absurd e hx
    ·exact⟨i,by omega,e⟩
theorem zGG{key:Nat->Lit}(hk:zDo key)(val:Nat->Value){l:Lit}{k:Nat}(h:∀i,i<k->key i≠l)(z:DataW Value):(putD key val k).atKey l z=z:=by
 refine atKey_of_not_has ?_ _;rw[Bool.eq_false_iff];intro hh;obtain⟨i,hi,e⟩:=(zD3 hk val l k).1 hh;exact h i hi e
theorem zKt{key:Nat->Lit}(hk:zDo key)(val:Nat->Value)(z:DataW Value):∀k i,i<k->(∀j,i<j->j<k->key j≠key i)->(putD key val k).atKey (key i) z = .held (val i)
 |0,i,hi,_=>absurd hi (Nat.not_lt_zero _)
 |k+1,i,hi,hd=>by
  by_cases e:i=k
  ·subst e;exact atKey_put_same (zCO hk val i).isMap (hk i) _ _
  ·exact(atKey_put_other (Ne.symm (hd k (by omega) (by omega))) _ _).trans (zKt hk val z k i (by omega) (fun j h1 h2=>hd j h1 (by omega)))
def zFf(n:Nat)(key:Nat->Lit):Prop:=∀i,i<n->∀k,k<i->key k≠key i
theorem zFH{k:Nat}{f:Nat->Lit}:zFf (k+1) f↔zFf k f/\∀i,i<k->f i≠f k:=by
 constructor
 ·exact fun h=>⟨fun i hi=>h i (by omega),fun i hi=>h k (by omega) i hi⟩
 ·rintro⟨h1,h2⟩ i hi j hj;by_cases e:i=k
  ·subst e;exact h2 j hj
  ·exact h1 i (by omega) j hj
theorem zGb{key:Nat->Lit}(hk:zDo key)(val:Nat->Value):∀k,Maps.size (putD key val k)<=k/\(Maps.size (putD key val k)=k↔zFf k key)
 |0=>⟨Nat.le_refl _,fun _ i hi=>by omega,fun _=>rfl⟩
 |k+1=>by
  obtain⟨h1,h2⟩:=zGb hk val k;have e:Maps.size (putD key val (k+1))=if Maps.has (putD key val k) (key k)then Maps.size (putD key val k)else Maps.size (putD key val k)+1:=size_put (zCO hk val k) _
  by_cases hh:Maps.has (putD key val k) (key k)=true
  ·rw[if_pos hh]at e;rw[e,zFH];refine⟨by omega,fun h=>by omega,fun h=>?_⟩;obtain⟨i,hi,he⟩:=(zD3 hk val (key k) k).1 hh;exact absurd he (h.2 i hi)
  ·rw[if_neg hh]at e;rw[e,zFH,<-h2];refine⟨by omega,fun h=>⟨by omega,fun i hi he=>hh ((zD3 hk val (key k) k).2 ⟨i,hi,he⟩)⟩,fun h=>by omega⟩
theorem zD4(n:Int)(w:World):Calls Tryz.prog 202 #[.int .i64 n] w fun e w'=>zG (zBs n 1 900000) e/\w'=w:=by
 by_cases h1:1<=n
 ·by_cases h2:n<=900000
  ·go_enter Tryz.func202,Tryz.ntmps202;go_wp2;go_ret;exact⟨zG.yes ⟨h1,h2⟩,rfl⟩
  ·go_enter Tryz.func202,Tryz.ntmps202;go_wp2;go_ret;exact⟨zG.no fun h=>by have:=h.2;omega,rfl⟩
 ·go_enter Tryz.func202,Tryz.ntmps202;go_wp2;go_ret;exact⟨zG.no fun h=>by have:=h.1;omega,rfl⟩
def Mid(a x b:Int):Prop:=a<x/\x<b
theorem zGt(a x b:Int)(w:World):Calls Tryz.prog 222 #[.int .i64 a,.int .i64 x,.int .i64 b] w fun e w'=>zG (Mid a x b) e/\w'=w:=by
 by_cases h1:a<x
 ·by_cases h2:x<b
  ·go_enter Tryz.func222,Tryz.ntmps222;go_wp2;go_ret;exact⟨zG.yes ⟨h1,h2⟩,rfl⟩
  ·go_enter Tryz.func222,Tryz.ntmps222;go_wp2;go_ret;exact⟨zG.no fun h=>by have:=h.2;omega,rfl⟩
 ·go_enter Tryz.func222,Tryz.ntmps222;go_wp2;go_ret;exact⟨zG.no fun h=>by have:=h.1;omega,rfl⟩
def zEE(f:Nat->qC):Nat->ByteArray
 |0=>⟨#[]⟩
 |k+1=>(f k).name
def zQV(n:Nat)(f:Nat->qC):Prop:=n<=8/\∀i,i<n->yM (f i).name/\zDD (zEE f i) (f i).name
theorem zIj(v:Value)(n lo hi:Nat)(f:Nat->qC)(w:World)(h:yZ w lo hi v n f) :
  Calls Tryz.prog 203 #[v] w fun e w'=>zG (zQV n f) e/\Below w.heap.size w w':=by
 have Hp:=zB h;obtain⟨m1,a,c,rfl,mc,-⟩:=id h;unfold maxLen at m1;clear h;by_cases hn:n<=8;rotate_left
 ·have lA:(8:Int)<(n:Int):=(by omega);go_enter Tryz.func203,Tryz.ntmps203;go_wp2;go_ret;exact⟨zG.no fun h=>hn h.1,Below.refl _ _⟩
 have lA:¬(8:Int)<(n:Int):=by omega
 go_enter Tryz.func203,Tryz.ntmps203;go_wp2
 go_loopw [3,11] (fun l i wr=>∃k:Nat,k<=n/\i = .int .i64 k/\l = .string (zEE f k)/\(∀j,j<k->yM (f j).name/\zDD (zEE f j) (f j).name)/\Below w.heap.size w wr) (fun _ i _=>n - (intOf i).toNat)
 case atStart=>exact⟨0,Nat.zero_le _,rfl,rfl,fun j hj=>absurd hj (Nat.not_lt_zero _),Below.refl _ _⟩
 case round=>
  obtain⟨k,hk,rfl,rfl,cA,hb⟩:=hrel;have bA:=zB cA;clear cA;by_cases dA:k<n;rotate_left
  ·obtain rfl:k=n:=(by omega);go_wp2;go_ret;exact⟨zG.yes ⟨hn,bA.out⟩,hb⟩
  have jA:(k:Int)<(n:Int):=(by omega);obtain⟨b,off,vd,rfl,aA⟩:=(Hp.out.zRJ hb).cells dA;obtain⟨-,ad,cd,rfl,-,-⟩:=id aA.zRX;have gA:=zC wr (.cells #[.string (f k).name,.int .i64 (f k).origin,.int .i64 (f k).zRT,.int .i64 (f k).rs,.int .i64 (f k).rb,.slice ad (f k).dn cd] 67);have kA:=zB (zi.zRL wr (.string (f k).name) (.int .i64 (f k).origin) (.int .i64 (f k).zRT) (.int .i64 (f k).rs) (.int .i64 (f k).rb) (.slice ad (f k).dn cd) 67);have fA:=zA hb gA;have q0:=aA.c0;have q1:=aA.c1;have q2:=aA.c2;have q3:=aA.c3;have q4:=aA.c4;have q5:=aA.c5;have iA:=aA.zRZ;obtain⟨⟨y0,y1⟩,-⟩:=kA.out;clear aA gA;go_wp2_with fail;clear q0 q1 q2 q3 q4 q5;refine(zDe (f k).name _ iA).mono ?_;rintro e wn ⟨⟨tn,rfl,eA⟩,rfl⟩;by_cases hA:yM (f k).name;rotate_left
  ·have Hn:=zB hA;obtain rfl:tn=false:=zQ eA hA;clear eA hA;go_wp2;go_ret;exact⟨zG.no fun h=>Hn.out (h.2 k dA).1,fA⟩
  have HA:=zB hA;obtain rfl:tn=true:=eA.2 hA;clear eA hA;by_cases hR:zDD (zEE f k) (f k).name
  ·have f1:=(zNQ (f k).name (zEE f k)).2 hR;have HR:=zB hR;clear hR;go_wp2;go_roundw
   case rel=>exact⟨k+1,by omega,by go_num,rfl,zo dA bA.out ⟨HA.out,HR.out⟩,fA⟩
   case measure=>simp[intOf];omega
  ·have f1:(Op.bytesLess (f k).name.toList (zEE f k).toList || (f k).name.toList == (zEE f k).toList)=true:=by
    cases hc:(Op.bytesLess (f k).name.toList (zEE f k).toList || (f k).name.toList == (zEE f k).toList)
    ·exact absurd ((zNQ _ _).1 hc) hR
    ·rfl
   have HR:=zB hR;clear hR;go_wp2;go_ret;exact⟨zG.no fun h=>HR.out (h.2 k dA).2,fA⟩
theorem zPh:laidOutB Tryz.prog=true:=by kernel_rfl
theorem zQU:300<=Tryz.prog.types.size+300 - 1/\1<=Tryz.prog.types.size:=by
 have h:decide (1<=Tryz.prog.types.size)=true:=by kernel_rfl
 have:=of_decide_eq_true h;omega
theorem zOv{k:Nat}(h:decide (k<Tryz.prog.types.size)=true):k<Tryz.prog.types.size:=of_decide_eq_true h
theorem zRF:Tryz.prog.underlying 9=some .string:=by kernel_rfl
theorem zQ7:Tryz.prog.underlying 2=some (.int .i64):=by kernel_rfl
theorem zOw:Keyed Tryz.prog 9:=string_keyed zRF
theorem zQ8:Keyed Tryz.prog 2:=int_keyed zQ7
def zCr(s:ByteArray):Lit:=.string s.data.toList
theorem zJ2{s:ByteArray}(h:s.size<=maxLen):keyOf Tryz.prog 9 (.string s)=some (zCr s):=by simp[keyOf,mapKey,zCr,h]
theorem zPq{s t:ByteArray}(h:zCr s=zCr t):s=t:=by
 unfold zCr at h;injection h with h;cases s;cases t;simp only[ByteArray.mk.injEq];exact Array.toList_inj.1 h
theorem zLq(s:ByteArray):WideAt.IsKeyLit (zCr s):=trivial
def zKE(x:Int):Lit:=.int .i64 x
theorem zNV{x:Int}(h:(Lit.int .i64 x).wf=true):keyOf Tryz.prog 2 (.int .i64 x)=some (zKE x):=keyOf_int_mk zQ7 h
theorem zLg{x y:Int}(h:zKE x=zKE y):x=y:=by unfold zKE at h;injection h
theorem zO8(x:Int):WideAt.IsKeyLit (zKE x):=trivial
theorem zQ3:Tryz.prog.underlying 266=some (.array 2 9):=by kernel_rfl
theorem zQl:Keyed Tryz.prog 266:=Keyed.of_law (deep_law_laid zPh (m:=5) (by decide) (zOv (by kernel_rfl)) (by kernel_rfl) (by kernel_rfl))
theorem zP4{s t:ByteArray}(hs:s.size<=maxLen)(ht:t.size<=maxLen):∃l,keyOf Tryz.prog 266 (.agg #[.string s,.string t])=some l:=by
 obtain⟨m,hm⟩:∃m,Tryz.prog.types.size+1=m+2:=⟨Tryz.prog.types.size - 1,by have:=zQU;omega⟩;have hk:Tryz.prog.keyType 266=true:=by kernel_rfl
 have hc:Tryz.prog.cellsOf 266=2:=by kernel_rfl
 have h1:Tryz.prog.cellsOf 9=1:=by kernel_rfl
 unfold keyOf;simp only[zQ3];rw[if_pos (by simp[hk,Value.formed,hc]),hm];unfold Program.keyLits;simp only[zQ3,Value.cells];rw[if_pos (by rw[hc];rfl),show List.range 2 = [0,1] from rfl,List.mapM_cons,List.mapM_cons,List.mapM_nil];simp[h1,Program.keyLits,hs,ht]
theorem zRA:Tryz.prog.underlying 61=some (.struct #[⟨"Slot",2,0,false, "", "",0⟩,⟨"Birth",2,1,false, "", "",8⟩]):=by kernel_rfl
theorem zQe:Keyed Tryz.prog 61:=Keyed.of_law (deep_law_laid zPh (m:=5) (by decide) (zOv (by kernel_rfl)) (by kernel_rfl) (by kernel_rfl))
theorem zPy{x y:Int}(hx:(Lit.int .i64 x).wf=true)(hy:(Lit.int .i64 y).wf=true):∃l,keyOf Tryz.prog 61 (.agg #[.int .i64 x,.int .i64 y])=some l:=by
 obtain⟨m,hm⟩:∃m,Tryz.prog.types.size+1=m+2:=⟨Tryz.prog.types.size - 1,by have:=zQU;omega⟩;have hk:Tryz.prog.keyType 61=true:=by kernel_rfl
 have hc:Tryz.prog.cellsOf 61=2:=by kernel_rfl
 have h1:Tryz.prog.cellsOf 2=1:=by kernel_rfl
 unfold keyOf;simp only[zRA];rw[if_pos (by simp[hk,Value.formed,hc]),hm];unfold Program.keyLits;simp only[zRA,Value.cells];rw[if_pos ⟨by rw[hc];rfl,by kernel_rfl⟩];simp[h1,Program.keyLits,hx,hy]
def zDG(vd:Value)(s:qC):Value:=.agg #[.string s.name,.int .i64 s.origin,.int .i64 s.zRT,.int .i64 s.rs,.int .i64 s.rb,vd]
def yg(vd:Value)(s:zm):Value:=.agg #[.int .i64 s.id,.string s.name,.string s.set,.int .i64 s.zRT,.int .i64 s.time,.int .i64 s.rs,.int .i64 s.rb,vd]
def zMD(w:World)(lo hi n:Nat)(f:Nat->qC)(vd:Nat->Value):Prop:=∀i,i<n->zR w lo hi (vd i) (f i).dn (f i).ds (f i).db
def zEi(w:World)(lo hi n:Nat)(f:Nat->zm)(vd:Nat->Value):Prop:=∀i,i<n->zR w lo hi (vd i) (f i).dn (f i).ds (f i).db
open Classical in
theorem yZ.vals{w:World}{lo hi:Nat}{a:Option Addr}{n c:Nat}{f:Nat->qC}(h:yZ w lo hi (.slice a n c) n f):∃vd:Nat->Value,zMD w lo hi n f vd/\∀i,i<n->∃b off,a=some ⟨b,off,none⟩/\zBZ w b (off+i*6) lo hi (vd i) (f i):=by
 have hx:∀i,∃v,i<n->∃b off,a=some ⟨b,off,none⟩/\zBZ w b (off+i*6) lo hi v (f i):=fun i=>by
  by_cases hi':i<n
  ·obtain⟨b,off,vd,ha,hs⟩:=h.cells hi';exact⟨vd,fun _=>⟨b,off,ha,hs⟩⟩
  ·exact⟨undef,fun h=>absurd h hi'⟩
 refine⟨fun i=>(hx i).choose,fun i hi'=>?_,fun i hi'=>(hx i).choose_spec hi'⟩;obtain⟨b,off,_,hs⟩:=(hx i).choose_spec hi';exact hs.zRX
open Classical in
theorem yC.vals{w:World}{lo hi:Nat}{a:Option Addr}{n c:Nat}{f:Nat->zm}(h:yC w lo hi (.slice a n c) n f):∃vd:Nat->Value,zEi w lo hi n f vd/\∀i,i<n->∃b off,a=some ⟨b,off,none⟩/\zAs w b (off+i*8) lo hi (vd i) (f i):=by
 have hx:∀i,∃v,i<n->∃b off,a=some ⟨b,off,none⟩/\zAs w b (off+i*8) lo hi v (f i):=fun i=>by
  by_cases hi':i<n
  ·obtain⟨b,off,vd,ha,hs⟩:=h.cells hi';exact⟨vd,fun _=>⟨b,off,ha,hs⟩⟩
  ·exact⟨undef,fun h=>absurd h hi'⟩
 refine⟨fun i=>(hx i).choose,fun i hi'=>?_,fun i hi'=>(hx i).choose_spec hi'⟩;obtain⟨b,off,_,hs⟩:=(hx i).choose_spec hi';exact hs.zRX
theorem zLr:Tryz.prog.underlying 177=some (.map 9 67):=by kernel_rfl
theorem zPg:Tryz.prog.underlying 218=some (.map 2 99):=by kernel_rfl
theorem zPe:Tryz.prog.underlying 265=some (.map 266 2):=by kernel_rfl
def zBu(w:World)(W:zH)(M n:Nat)(vd:Nat->Value):Prop:=w.ownsMap Tryz.prog 9 zCK M n (putD (fun i=>zCr (W.zRS i).name) (fun i=>zDG (vd i) (W.zRS i)) n)
def zCT(w:World)(W:zH)(M n:Nat)(vd:Nat->Value):Prop:=w.ownsMap Tryz.prog 2 zCK M n (putD (fun i=>zKE (W.zRP i).id) (fun i=>yg (vd i) (W.zRP i)) n)
theorem zBu.zRJ{w w':World}{W:zH}{M n:Nat}{vd:Nat->Value}(h:zBu w W M n vd)(t:Below w.heap.size w w'):zBu w' W M n vd:=h.kept (yu t none) (by simp)
theorem zCT.zRJ{w w':World}{W:zH}{M n:Nat}{vd:Nat->Value}(h:zCT w W M n vd)(t:Below w.heap.size w w'):zCT w' W M n vd:=h.kept (yu t none) (by simp)
theorem zEL(v0 v1 v2 v3:Value)(lo hi:Nat)(W:zH)(w:World)(h:zl w lo hi v0 v1 v2 v3 W)(hn:W.sn<=8) :
  Calls Tryz.prog 129 #[zz v0 v1 v2 v3 W] w fun e w'=>∃vd,e = .returned (.map (some (w.heap.size+1)))/\zBu w' W (w.heap.size+1) W.sn vd/\zMD w lo hi W.sn W.zRS vd/\Below w.heap.size w w':=by
 have Hp:=zB h;obtain⟨m1,a,c,rfl,mc,-⟩:=id h.zRS;unfold maxLen at m1;obtain⟨vd,lA,rA⟩:=h.zRS.vals;have cB:=zB lA;have aB:=zB rA;clear h lA rA;have ha:=zC w (.cells #[v0,v1,.int .i64 W.time,.int .i64 W.next,.slice a W.sn c,v3] 37);have HB:=zB (zi.zRL w v0 v1 (.int .i64 W.time) (.int .i64 W.next) (.slice a W.sn c) v3 37);have jA:(w.alloc (.cells #[v0,v1,.int .i64 W.time,.int .i64 W.next,.slice a W.sn c,v3] 37)).heap.size=w.heap.size+1:=World.size_alloc _ _;have hm:=World.ownsMap_made (w.alloc (.cells #[v0,v1,.int .i64 W.time,.int .i64 W.next,.slice a W.sn c,v3] 37)) Tryz.prog 9 zCK;rw[jA]at hm;have HM:=zB hm;have pA:=zB (HB.out.zRJ (zC _ (.map #[] 0)));have mA:=zB (zA ha (zC _ (.map #[] 0)));have fB:=@run_makeMap Tryz.prog;obtain⟨⟨x0,-⟩,⟨x2,-⟩,⟨x4,-⟩,⟨x6,-⟩,⟨x8,-⟩,⟨bB,-⟩⟩:=pA.out;clear hm;go_enter Tryz.func129,Tryz.ntmps129;go_wp2;clear x0 x2 x4 x6 x8 bB ha
 go_loopw [10] (fun i wr=>∃k:Nat,k<=W.sn/\i = .int .i64 k/\zBu wr W (w.heap.size+1) k vd/\Below w.heap.size w wr/\w.heap.size+2<=wr.heap.size) (fun i _=>W.sn - (intOf i).toNat)
 case atStart=>exact⟨0,Nat.zero_le _,rfl,HM.out,mA.out,by rw[World.size_alloc,jA];omega⟩
 case round=>
  clear HM pA mA HB jA;obtain⟨k,hk,rfl,cA,hb,hz⟩:=hrel;have eA:=zB cA;clear cA;by_cases tA:k<W.sn
  ·have vA:(k:Int)<(W.sn:Int):=(by omega);obtain⟨b,off,rfl,nA⟩:=aB.out k tA;have bA:=nA.zRJ hb;obtain⟨-,ad,cd,iA,-,-⟩:=id bA.zRX;have dB:=zB iA;rw[iA]at bA;clear iA nA;have gA:=zC wr (.cells #[.string (W.zRS k).name,.int .i64 (W.zRS k).origin,.int .i64 (W.zRS k).zRT,.int .i64 (W.zRS k).rs,.int .i64 (W.zRS k).rb,.slice ad (W.zRS k).dn cd] 67);have sA:=zB (zi.zRL wr (.string (W.zRS k).name) (.int .i64 (W.zRS k).origin) (.int .i64 (W.zRS k).zRT) (.int .i64 (W.zRS k).rs) (.int .i64 (W.zRS k).rb) (.slice ad (W.zRS k).dn cd) 67);have oA:=zA hb gA;have q0:=bA.c0;have q1:=bA.c1;have q2:=bA.c2;have q3:=bA.c3;have q4:=bA.c4;have q5:=bA.c5;have kA:=zB (zJ2 bA.zRZ);obtain⟨⟨y0,y1⟩,⟨y2,y3⟩,⟨y4,y5⟩,⟨y6,y7⟩,⟨y8,y9⟩,⟨gB,eB⟩⟩:=sA.out;have fA:=zB (eA.out.zRJ gA);have iB:=gA.size;clear bA gA;go_wp2_with (first
    |(at_mapUpdate;refine wpList_mapUpdate_own _ rfl _ _ _ 177 rfl 9 67 zOw zLr zCK (w.heap.size+1) k _ rfl fA.out (by unfold maxLen;omega) _ _ _ rfl rfl kA.out _ [] (zBw _) ?_;intro w1 dA aA)
    |go_in)
   go_roundw
   case rel=>
    refine⟨k+1,by omega,by go_num,?_,oA.grown aA oA.size (fun j hj=>by cases hj;omega),by have:=aA.size;omega⟩;unfold zBu putD zDG;rw[dB.out];exact dA
   case measure=>simp[intOf];omega
  ·obtain rfl:k=W.sn:=(by omega);go_wp2;go_ret;exact⟨vd,rfl,eA.out,cB.out,hb⟩
def zNd(n:Nat)(f:Nat->zm):Prop:=∀i,i<n->(Lit.int .i64 (f i).id).wf=true
theorem zIv(v0 v1 v2 v3:Value)(lo hi:Nat)(W:zH)(w:World)(h:zl w lo hi v0 v1 v2 v3 W)(hn:W.pn<=20)(rA:zNd W.pn W.zRP) :
  Calls Tryz.prog 179 #[zz v0 v1 v2 v3 W] w fun e w'=>∃vd,e = .returned (.map (some (w.heap.size+1)))/\zCT w' W (w.heap.size+1) W.pn vd/\zEi w lo hi W.pn W.zRP vd/\Below w.heap.size w w':=by
 have Hp:=zB h;have cB:=zB rA;obtain⟨m1,a,c,rfl,mc,-⟩:=id h.zRP;unfold maxLen at m1;obtain⟨vd,lA,tA⟩:=h.zRP.vals;have eB:=zB lA;have bB:=zB tA;clear h lA tA rA;have ha:=zC w (.cells #[v0,v1,.int .i64 W.time,.int .i64 W.next,v2,.slice a W.pn c] 37);have HB:=zB (zi.zRL w v0 v1 (.int .i64 W.time) (.int .i64 W.next) v2 (.slice a W.pn c) 37);have jA:(w.alloc (.cells #[v0,v1,.int .i64 W.time,.int .i64 W.next,v2,.slice a W.pn c] 37)).heap.size=w.heap.size+1:=World.size_alloc _ _;have hm:=World.ownsMap_made (w.alloc (.cells #[v0,v1,.int .i64 W.time,.int .i64 W.next,v2,.slice a W.pn c] 37)) Tryz.prog 2 zCK;rw[jA]at hm;have HM:=zB hm;have sA:=zB (HB.out.zRJ (zC _ (.map #[] 0)));have mA:=zB (zA ha (zC _ (.map #[] 0)));have gB:=@run_makeMap Tryz.prog;obtain⟨⟨x0,-⟩,⟨x2,-⟩,⟨x4,-⟩,⟨x6,-⟩,⟨x8,-⟩,⟨dB,-⟩⟩:=sA.out;clear hm;go_enter Tryz.func179,Tryz.ntmps179;go_wp2;clear x0 x2 x4 x6 x8 dB ha
 go_loopw [10] (fun i wr=>∃k:Nat,k<=W.pn/\i = .int .i64 k/\zCT wr W (w.heap.size+1) k vd/\Below w.heap.size w wr/\w.heap.size+2<=wr.heap.size) (fun i _=>W.pn - (intOf i).toNat)
 case atStart=>exact⟨0,Nat.zero_le _,rfl,HM.out,mA.out,by rw[World.size_alloc,jA];omega⟩
 case round=>
  clear HM sA mA HB jA;obtain⟨k,hk,rfl,cA,hb,hz⟩:=hrel;have eA:=zB cA;clear cA;by_cases oA:k<W.pn
  ·have aB:(k:Int)<(W.pn:Int):=(by omega);obtain⟨b,off,rfl,nA⟩:=bB.out k oA;have bA:=nA.zRJ hb;obtain⟨-,ad,cd,iA,-,-⟩:=id bA.zRX;have fB:=zB iA;rw[iA]at bA;clear iA nA;have gA:=zC wr (.cells #[.int .i64 (W.zRP k).id,.string (W.zRP k).name,.string (W.zRP k).set,.int .i64 (W.zRP k).zRT,.int .i64 (W.zRP k).time,.int .i64 (W.zRP k).rs,.int .i64 (W.zRP k).rb,.slice ad (W.zRP k).dn cd] 99);have vA:=zB (zCF.zRL wr (.int .i64 (W.zRP k).id) (.string (W.zRP k).name) (.string (W.zRP k).set) (.int .i64 (W.zRP k).zRT) (.int .i64 (W.zRP k).time) (.int .i64 (W.zRP k).rs) (.int .i64 (W.zRP k).rb) (.slice ad (W.zRP k).dn cd) 99);have pA:=zA hb gA;have q0:=bA.c0;have q1:=bA.c1;have q2:=bA.c2;have q3:=bA.c3;have q4:=bA.c4;have q5:=bA.c5;have q6:=bA.c6;have q7:=bA.c7;have kA:=zB (zNV (cB.out k oA));obtain⟨⟨⟨y0,-⟩,⟨y1,-⟩,⟨y2,-⟩,⟨y3,-⟩⟩,⟨y4,-⟩,⟨y5,-⟩,⟨y6,-⟩,⟨y7,-⟩⟩:=vA.out;have fA:=zB (eA.out.zRJ gA);have iB:=gA.size;clear bA gA;go_wp2_with (first
    |(at_mapUpdate;refine wpList_mapUpdate_own _ rfl _ _ _ 218 rfl 2 99 zQ8 zPg zCK (w.heap.size+1) k _ rfl fA.out (by unfold maxLen;omega) _ _ _ rfl rfl kA.out _ [] (zBw _) ?_;intro w1 dA aA)
    |go_in)
   go_roundw
   case rel=>
    refine⟨k+1,by omega,by go_num,?_,pA.grown aA pA.size (fun j hj=>by cases hj;omega),by have:=aA.size;omega⟩;unfold zCT putD yg;rw[fB.out];exact dA
   case measure=>simp[intOf];omega
  ·obtain rfl:k=W.pn:=(by omega);go_wp2;go_ret;exact⟨vd,rfl,eA.out,eB.out,hb⟩
def zCZ(n:Nat)(f:Nat->zm):Prop:=∀i,i<n->∀k,k<i->¬((f k).set=(f i).set/\(f k).name=(f i).name)
theorem zCZ.iff{n:Nat}{f:Nat->zm}{key:Nat->Lit}(hk:∀i,i<n->keyOf Tryz.prog 266 (.agg #[.string (f i).set,.string (f i).name])=some (key i)):zFf n key↔zCZ n f:=by
 constructor
 ·intro h i hi k aA e;refine h i hi k aA ?_;have h1:=hk i hi;have h2:=hk k (by omega);rw[e.1,e.2,h1]at h2;exact(Option.some.inj h2).symm
 ·intro h i hi k aA e;have h1:=hk i hi;have h2:=hk k (by omega);rw[e]at h2;have:=zQl.inj h2 h1;simp only[Value.agg.injEq,Array.mk.injEq,List.cons.injEq,Value.string.injEq,and_true]at this;exact h i hi k aA this
theorem zHr(v:Value)(n lo hi:Nat)(f:Nat->zm)(w:World)(h:yC w lo hi v n f)(hn:n<=20) :
  Calls Tryz.prog 223 #[v] w fun e w'=>zG (zCZ n f) e/\Below w.heap.size w w':=by
 have Hp:=zB h;obtain⟨m1,a,c,rfl,mc,-⟩:=id h;unfold maxLen at m1;have gA:∀i,∃l,WideAt.IsKeyLit l/\(i<n->keyOf Tryz.prog 266 (.agg #[.string (f i).set,.string (f i).name])=some l):=fun i=>by
  by_cases hi':i<n
  ·obtain⟨b,off,vd,_,hs⟩:=h.cells hi';obtain⟨l,hl⟩:=zP4 hs.zRZ.2 hs.zRZ.1;exact⟨l,zQl.key hl,fun _=>hl⟩
  ·exact⟨.string [],trivial,fun h=>absurd h hi'⟩
 obtain⟨key,kA,oA⟩:∃key:Nat->Lit,zDo key/\∀i,i<n->keyOf Tryz.prog 266 (.agg #[.string (f i).set,.string (f i).name])=some (key i):=⟨fun i=>(gA i).choose,fun i=>(gA i).choose_spec.1,fun i=>(gA i).choose_spec.2⟩;have rA:=zB kA;have lA:=zB oA;clear h gA kA oA;have HM:=zB (World.ownsMap_made w Tryz.prog 266 zCK);have vA:=@run_makeMap Tryz.prog;go_enter Tryz.func223,Tryz.ntmps223;go_wp2
 go_loopw [9] (fun i wr=>∃k:Nat,k<=n/\i = .int .i64 k/\wr.ownsMap Tryz.prog 266 zCK w.heap.size k (putD key (fun i=>.int .i64 (f i).id) k)/\Below w.heap.size w wr/\w.heap.size+1<=wr.heap.size) (fun i _=>n - (intOf i).toNat)
 case atStart=>exact⟨0,Nat.zero_le _,rfl,HM.out,zC _ _,by rw[World.size_alloc];omega⟩
 case round=>
  clear HM;obtain⟨k,hk,rfl,cA,hb,hz⟩:=hrel;have eA:=zB cA;clear cA;by_cases mA:k<n
  ·have sA:(k:Int)<(n:Int):=(by omega);obtain⟨b,off,vd,rfl,bA⟩:=(Hp.out.zRJ hb).cells mA;obtain⟨-,ad,cd,rfl,-,-⟩:=id bA.zRX;have iA:=zC wr (.cells #[.int .i64 (f k).id,.string (f k).name,.string (f k).set,.int .i64 (f k).zRT,.int .i64 (f k).time,.int .i64 (f k).rs,.int .i64 (f k).rb,.slice ad (f k).dn cd] 99);have pA:=zB (zCF.zRL wr (.int .i64 (f k).id) (.string (f k).name) (.string (f k).set) (.int .i64 (f k).zRT) (.int .i64 (f k).time) (.int .i64 (f k).rs) (.int .i64 (f k).rb) (.slice ad (f k).dn cd) 99);have nA:=zA hb iA;have q0:=bA.c0;have q1:=bA.c1;have q2:=bA.c2;have q3:=bA.c3;have q4:=bA.c4;have q5:=bA.c5;have q6:=bA.c6;have q7:=bA.c7;have jA:=zB (lA.out k mA);obtain⟨⟨⟨y0,-⟩,⟨y1,-⟩,⟨y2,-⟩,⟨y3,-⟩⟩,⟨y4,-⟩,⟨y5,-⟩,⟨y6,-⟩,⟨y7,-⟩⟩:=pA.out;have fA:=zB (eA.out.kept (yu iA none) (by simp));have aB:=iA.size;clear bA iA;go_wp2_with (first
    |(at_mapUpdate;refine wpList_mapUpdate_own _ rfl _ _ _ 265 rfl 266 2 zQl zPe zCK w.heap.size k _ rfl fA.out (by unfold maxLen;omega) _ _ _ rfl rfl jA.out _ [] (zBw _) ?_;intro w1 dA aA)
    |go_in)
   go_roundw
   case rel=>exact⟨k+1,by omega,by go_num,dA,nA.grown aA nA.size (fun j hj=>by cases hj;omega),by have:=aA.size;omega⟩
   case measure=>simp[intOf];omega
  ·obtain rfl:k=n:=(by omega);have tA:=zB (zGb rA.out (fun i=>.int .i64 (f i).id) k);have HN:=zB (zCZ.iff (f:=f) lA.out);go_wp2_with (first
    |(at_len;refine wpList_len_own _ rfl _ 265 rfl 266 2 zPe zCK w.heap.size k _ rfl eA.out ?_)
    |go_in)
   go_ret;refine⟨⟨_,rfl,?_⟩,hb⟩;have h1:=tA.out.2;have h2:=HN.out;simp only[beq_iff_eq,Int.natCast_inj];exact h1.trans h2
def zEK(f:Nat->zm):Nat->zm
 |0=>yP
 |k+1=>f k
def zH1(W:zH)(i:Nat):Prop:=zAR W (W.zRP i).set/\yM (W.zRP i).name/\(W.zRP i).zRT<(W.zRP i).id/\Mid (zEK W.zRP i).id (W.zRP i).id W.next/\Mid (zEK W.zRP i).time (W.zRP i).time W.time
def zPX(W:zH):Prop:=W.pn<=20/\(∀i,i<W.pn->zH1 W i)/\zCZ W.pn W.zRP
theorem zFl(w:World):(zeroValue 67).run Tryz.prog w = .ok (.agg #[.string ⟨#[]⟩,.int .i64 0,.int .i64 0,.int .i64 0,.int .i64 0,.slice none 0 0]) w:=by kernel_rfl
theorem zJJ{W:zH}{vd:Nat->Value}(hd:∀i,i<W.sn->∃a n c,vd i = .slice a n c)(x:ByteArray):∃(s0:ByteArray) (i1 i2 i3 i4:Int) (a:Option Addr) (n c:Nat),(putD (fun i=>zCr (W.zRS i).name) (fun i=>zDG (vd i) (W.zRS i)) W.sn).atKey (zCr x) (.held (.agg #[.string ⟨#[]⟩,.int .i64 0,.int .i64 0,.int .i64 0,.int .i64 0,.slice none 0 0])) = .held (.agg #[.string s0,.int .i64 i1,.int .i64 i2,.int .i64 i3,.int .i64 i4,.slice a n c]):=by
 have hk:zDo (fun i=>zCr (W.zRS i).name):=fun i=>zLq _
 have:∀k,k<=W.sn->∃(s0:ByteArray) (i1 i2 i3 i4:Int) (a:Option Addr) (n c:Nat),(putD (fun i=>zCr (W.zRS i).name) (fun i=>zDG (vd i) (W.zRS i)) k).atKey (zCr x) (.held (.agg #[.string ⟨#[]⟩,.int .i64 0,.int .i64 0,.int .i64 0,.int .i64 0,.slice none 0 0])) = .held (.agg #[.string s0,.int .i64 i1,.int .i64 i2,.int .i64 i3,.int .i64 i4,.slice a n c]):=by
  intro k
  induction k with
  |zero=>exact fun _=>⟨⟨#[]⟩,0,0,0,0,none,0,0,zGG hk _ (fun i hi=>absurd hi (Nat.not_lt_zero _)) _⟩
  |succ k ih=>
   intro aA;by_cases e:zCr (W.zRS k).name=zCr x
   ·obtain⟨a,n,c,hv⟩:=hd k (by omega);refine⟨(W.zRS k).name,(W.zRS k).origin,(W.zRS k).zRT,(W.zRS k).rs,(W.zRS k).rb,a,n,c,?_⟩;rw[<-e];refine(atKey_put_same (zCO hk _ k).isMap (hk k) _ _).trans ?_;show DataW.held (zDG (vd k) (W.zRS k))=_;rw[hv];rfl
   ·obtain⟨s0,i1,i2,i3,i4,a,n,c,h⟩:=ih (by omega);exact⟨s0,i1,i2,i3,i4,a,n,c,(atKey_put_other (Ne.symm e) _ _).trans h⟩
 exact this W.sn (Nat.le_refl _)
theorem zK9{W:zH}{vd:Nat->Value}(x:ByteArray):Maps.has (putD (fun i=>zCr (W.zRS i).name) (fun i=>zDG (vd i) (W.zRS i)) W.sn) (zCr x)=true↔zAR W x:=by
 rw[zD3 (fun i=>zLq _)];constructor
 ·rintro⟨i,hi,e⟩;exact⟨i,hi,zPq e⟩
 ·rintro⟨i,hi,e⟩;exact⟨i,hi,by rw[e]⟩
abbrev put8(w:World)(b:Nat)(u0 u1 u2 u3 u4 u5 u6 u7:Value):World:=(((((((w.setCell ⟨b,0,none⟩ u0).setCell ⟨b,1,none⟩ u1).setCell ⟨b,2,none⟩ u2).setCell ⟨b,3,none⟩ u3).setCell ⟨b,4,none⟩ u4).setCell ⟨b,5,none⟩ u5).setCell ⟨b,6,none⟩ u6).setCell ⟨b,7,none⟩ u7
theorem zCF.put{w:World}{b:Nat}{v0 v1 v2 v3 v4 v5 v6 v7:Value}(h:zCF w b v0 v1 v2 v3 v4 v5 v6 v7)(u0 u1 u2 u3 u4 u5 u6 u7:Value):zCF (put8 w b u0 u1 u2 u3 u4 u5 u6 u7) b u0 u1 u2 u3 u4 u5 u6 u7:=by
 obtain⟨⟨h0,h1,h2,h3⟩,h4,h5,h6,h7⟩:=h;refine⟨⟨?_,?_,?_,?_⟩,?_,?_,?_,?_⟩
 ·exact(((((((h0.set _).zRK _ (Or.inr (by omega))).zRK _ (Or.inr (by omega))).zRK _ (Or.inr (by omega))).zRK _ (Or.inr (by omega))).zRK _ (Or.inr (by omega))).zRK _ (Or.inr (by omega))).zRK _ (Or.inr (by omega))
 ·exact(((((((h1.zRK _ (Or.inr (by omega))).set _).zRK _ (Or.inr (by omega))).zRK _ (Or.inr (by omega))).zRK _ (Or.inr (by omega))).zRK _ (Or.inr (by omega))).zRK _ (Or.inr (by omega))).zRK _ (Or.inr (by omega))
 ·exact(((((((h2.zRK _ (Or.inr (by omega))).zRK _ (Or.inr (by omega))).set _).zRK _ (Or.inr (by omega))).zRK _ (Or.inr (by omega))).zRK _ (Or.inr (by omega))).zRK _ (Or.inr (by omega))).zRK _ (Or.inr (by omega))
 ·exact(((((((h3.zRK _ (Or.inr (by omega))).zRK _ (Or.inr (by omega))).zRK _ (Or.inr (by omega))).set _).zRK _ (Or.inr (by omega))).zRK _ (Or.inr (by omega))).zRK _ (Or.inr (by omega))).zRK _ (Or.inr (by omega))
 ·exact(((((((h4.zRK _ (Or.inr (by omega))).zRK _ (Or.inr (by omega))).zRK _ (Or.inr (by omega))).zRK _ (Or.inr (by omega))).set _).zRK _ (Or.inr (by omega))).zRK _ (Or.inr (by omega))).zRK _ (Or.inr (by omega))
 ·exact(((((((h5.zRK _ (Or.inr (by omega))).zRK _ (Or.inr (by omega))).zRK _ (Or.inr (by omega))).zRK _ (Or.inr (by omega))).zRK _ (Or.inr (by omega))).set _).zRK _ (Or.inr (by omega))).zRK _ (Or.inr (by omega))
 ·exact(((((((h6.zRK _ (Or.inr (by omega))).zRK _ (Or.inr (by omega))).zRK _ (Or.inr (by omega))).zRK _ (Or.inr (by omega))).zRK _ (Or.inr (by omega))).zRK _ (Or.inr (by omega))).set _).zRK _ (Or.inr (by omega))
 ·exact(((((((h7.zRK _ (Or.inr (by omega))).zRK _ (Or.inr (by omega))).zRK _ (Or.inr (by omega))).zRK _ (Or.inr (by omega))).zRK _ (Or.inr (by omega))).zRK _ (Or.inr (by omega))).zRK _ (Or.inr (by omega))).set _
theorem zF.put8(w:World)(b:Nat)(u0 u1 u2 u3 u4 u5 u6 u7:Value):zF (fun k=>k=b) w (put8 w b u0 u1 u2 u3 u4 u5 u6 u7):=
 (((((((zF.put w b 0 u0).trans (zF.put _ b 1 u1)).trans (zF.put _ b 2 u2)).trans (zF.put _ b 3 u3)).trans (zF.put _ b 4 u4)).trans (zF.put _ b 5 u5)).trans (zF.put _ b 6 u6)).trans (zF.put _ b 7 u7)
theorem zBu.put8{w:World}{W:zH}{M n b:Nat}{vd:Nat->Value}(h:zBu w W M n vd)(hb:M≠b)(u0 u1 u2 u3 u4 u5 u6 u7:Value):zBu (Go.Proofs.YtmgeglgboadfiaaGreatDoor.put8 w b u0 u1 u2 u3 u4 u5 u6 u7) W M n vd:=
 (((((((World.ownsMap.setCell h hb u0).setCell hb u1).setCell hb u2).setCell hb u3).setCell hb u4).setCell hb u5).setCell hb u6).setCell hb u7
theorem zMT{B:Nat}{w w':World}(h:Below B w w'){b:Nat}(hb:B<=b)(u0 u1 u2 u3 u4 u5 u6 u7:Value):Below B w (put8 w' b u0 u1 u2 u3 u4 u5 u6 u7):=
 (((((((h.setCell hb u0).setCell hb u1).setCell hb u2).setCell hb u3).setCell hb u4).setCell hb u5).setCell hb u6).setCell hb u7
theorem zHe(v0 v1 v2 v3:Value)(lo hi:Nat)(W:zH)(w:World)(h:zl w lo hi v0 v1 v2 v3 W)(hs:W.sn<=8) :
  Calls Tryz.prog 204 #[zz v0 v1 v2 v3 W] w fun e w'=>zG (zPX W) e/\Below w.heap.size w w':=by
 have Hp:=zB h;obtain⟨m1,a,c,rfl,mc,-⟩:=id h.zRP;unfold maxLen at m1;clear h;have ha:=zC w (.cells #[v0,v1,.int .i64 W.time,.int .i64 W.next,v2,.slice a W.pn c] 37);have HB:=zB (zi.zRL w v0 v1 (.int .i64 W.time) (.int .i64 W.next) v2 (.slice a W.pn c) 37);obtain⟨⟨x0,-⟩,⟨x2,-⟩,⟨x4,-⟩,⟨x6,-⟩,⟨x8,-⟩,⟨gA,-⟩⟩:=HB.out;by_cases hn:W.pn<=20;rotate_left
 ·have cC:(20:Int)<(W.pn:Int):=(by omega);go_enter Tryz.func204,Tryz.ntmps204;go_wp2;go_ret;exact⟨zG.no fun h=>hn h.1,ha⟩
 have cC:¬(20:Int)<(W.pn:Int):=by omega
 go_enter Tryz.func204,Tryz.ntmps204;go_wp2_with fail;clear x0 x2 x4 x6 x8 gA;generalize w.alloc (.cells #[v0,v1,.int .i64 W.time,.int .i64 W.next,v2,.slice a W.pn c] 37)=W0 at ha HB ⊢;refine(zEL v0 v1 v2 _ lo hi W W0 (Hp.out.zRJ ha) hs).mono ?_;rintro e w1 ⟨vd,rfl,dA,jB,iB⟩;have pB:∀i,i<W.sn->∃a n c,vd i = .slice a n c:=fun i hi'=>by
  obtain⟨_,aa,cc,hv,_⟩:=jB i hi';exact⟨aa,_,cc,hv⟩
 have mA:=zB (zJJ pB);have nA:=zB (zK9 (W:=W) (vd:=vd));have rA:=zC w1 (.cells #[.int .i64 0,.string ⟨#[]⟩,.string ⟨#[]⟩,.int .i64 0,.int .i64 0,.int .i64 0,.int .i64 0,.slice none 0 0] 99);have vA:=zB ((HB.out.zRJ iB).zRJ rA);have sA:=zB (zCF.zRL w1 (.int .i64 0) (.string ⟨#[]⟩) (.string ⟨#[]⟩) (.int .i64 0) (.int .i64 0) (.int .i64 0) (.int .i64 0) (.slice none 0 0) 99);have aB:=zB (dA.zRJ rA);have kB:=zB (zA (zA ha iB) rA);have rB:W0.heap.size+1<w1.heap.size:=dA.lt;have nB:=zB (show w.heap.size<W0.heap.size+1 by have:=HB.out.1.lt;omega);clear dA jB pB iB rA ha HB;obtain⟨⟨x0,-⟩,⟨x2,-⟩,⟨x4,-⟩,⟨x6,-⟩,⟨x8,-⟩,⟨gA,-⟩⟩:=vA.out;go_wp2;clear x0 x2 x4 x6 x8 gA;obtain⟨L,hL⟩:∃L,L=w1.heap.size:=⟨_,rfl⟩;rw[<-hL]at sA rB ⊢;obtain⟨M,hM⟩:∃M,M=W0.heap.size+1:=⟨_,rfl⟩;rw[<-hM]at aB rB nB ⊢;have dC:w.heap.size<L:=by have:=nB.out;omega
 go_loopw [18] (fun i wr=>∃(k:Nat) (al:Option Addr) (nl cl:Nat),k<=W.pn/\i = .int .i64 k/\(∀j,j<k->zH1 W j)/\zCF wr L (.int .i64 (zEK W.zRP k).id) (.string (zEK W.zRP k).name) (.string (zEK W.zRP k).set) (.int .i64 (zEK W.zRP k).zRT) (.int .i64 (zEK W.zRP k).time) (.int .i64 (zEK W.zRP k).rs) (.int .i64 (zEK W.zRP k).rb) (.slice al nl cl)/\zi wr w.heap.size v0 v1 (.int .i64 W.time) (.int .i64 W.next) v2 (.slice a W.pn c)/\zBu wr W M W.sn vd/\Below w.heap.size w wr) (fun i _=>W.pn - (intOf i).toNat)
 case atStart=>exact⟨0,none,0,0,Nat.zero_le _,rfl,fun j hj=>absurd hj (Nat.not_lt_zero _),sA.out,vA.out,aB.out,kB.out⟩
 case round=>
  clear sA vA aB kB hL hM;obtain⟨k,al,nl,cl,hk,rfl,oA,hV,hX,hM,hb⟩:=hrel;have lA:=zB oA;have HV:=zB hV;have HX:=zB hX;have HM:=zB hM;clear oA hV hX hM;obtain⟨⟨x0,-⟩,⟨x2,-⟩,⟨x4,-⟩,⟨x6,-⟩,⟨x8,-⟩,⟨gA,-⟩⟩:=HX.out;by_cases eA:k<W.pn
  ·have vB:(k:Int)<(W.pn:Int):=(by omega);obtain⟨b,off,eC,rfl,cA⟩:=(Hp.out.zRP.zRJ hb).cells eA;obtain⟨-,ad,cd,rfl,-,-⟩:=id cA.zRX;obtain⟨s0,i1,i2,i3,i4,sa,sn,sc,mB⟩:=mA.out (W.zRP k).set;have cB:=zB mB;have iA:=zB (zJ2 cA.zRZ.2);have tB:=cA.zRZ.1;clear mB;have aC:wr.heap.size≠L:=(by have:=HV.out.1.1.lt;omega);have kA:=zC wr (.cells #[.int .i64 (W.zRP k).id,.string (W.zRP k).name,.string (W.zRP k).set,.int .i64 (W.zRP k).zRT,.int .i64 (W.zRP k).time,.int .i64 (W.zRP k).rs,.int .i64 (W.zRP k).rb,.slice ad (W.zRP k).dn cd] 99);have jA:=zC (wr.alloc (.cells #[.int .i64 (W.zRP k).id,.string (W.zRP k).name,.string (W.zRP k).set,.int .i64 (W.zRP k).zRT,.int .i64 (W.zRP k).time,.int .i64 (W.zRP k).rs,.int .i64 (W.zRP k).rb,.slice ad (W.zRP k).dn cd] 99)) (.cells #[.string s0,.int .i64 i1,.int .i64 i2,.int .i64 i3,.int .i64 i4,.slice sa sn sc] 67);have bB:=zB (zCF.zRL wr (.int .i64 (W.zRP k).id) (.string (W.zRP k).name) (.string (W.zRP k).set) (.int .i64 (W.zRP k).zRT) (.int .i64 (W.zRP k).time) (.int .i64 (W.zRP k).rs) (.int .i64 (W.zRP k).rb) (.slice ad (W.zRP k).dn cd) 99);have tA:=zB (HM.out.zRJ kA);have pA:=zB (bB.out.zRJ jA);have eB:=zB ((HV.out.zRJ kA).zRJ jA);have gB:=zB ((HX.out.zRJ kA).zRJ jA);have lB:=zB ((HM.out.zRJ kA).zRJ jA);have fA:=zA (zA hb kA) jA;have fB:((wr.alloc (.cells #[.int .i64 (W.zRP k).id,.string (W.zRP k).name,.string (W.zRP k).set,.int .i64 (W.zRP k).zRT,.int .i64 (W.zRP k).time,.int .i64 (W.zRP k).rs,.int .i64 (W.zRP k).rb,.slice ad (W.zRP k).dn cd] 99)).alloc (.cells #[.string s0,.int .i64 i1,.int .i64 i2,.int .i64 i3,.int .i64 i4,.slice sa sn sc] 67)).heap.size=wr.heap.size+2:=(by rw[World.size_alloc,World.size_alloc]);have q0:=cA.c0;have q1:=cA.c1;have q2:=cA.c2;have q3:=cA.c3;have q4:=cA.c4;have q5:=cA.c5;have q6:=cA.c6;have q7:=cA.c7;obtain⟨⟨⟨y0,-⟩,⟨y1,-⟩,⟨y2,-⟩,⟨y3,-⟩⟩,⟨y4,-⟩,⟨y5,-⟩,⟨y6,-⟩,⟨y7,-⟩⟩:=bB.out;obtain⟨⟨⟨z0,-⟩,⟨z1,-⟩,⟨z2,-⟩,⟨z3,-⟩⟩,⟨z4,-⟩,⟨z5,-⟩,⟨z6,-⟩,⟨z7,-⟩⟩:=pA.out;clear cA;by_cases bA:zAR W (W.zRP k).set;rotate_left
   ·have Hc:=zB (show Maps.has (putD (fun i=>zCr (W.zRS i).name) (fun i=>zDG (vd i) (W.zRS i)) W.sn) (zCr (W.zRP k).set)=false by rw[Bool.eq_false_iff];exact fun h=>bA ((nA.out _).1 h));have Hn:=zB (show ¬zH1 W k from fun h=>bA h.1);clear bA;go_wp2_with (first
     |(at_lookup;refine zAA _ rfl _ _ 177 rfl 9 67 zOw zLr (zFl _) M W.sn _ rfl tA.out _ _ rfl iA.out _ cB.out false Hc.out ?_)
     |go_in)
    go_ret;exact⟨zG.no fun h=>Hn.out (h.2.1 k eA),fA⟩
   have dB:=zB bA;have Hc:=zB ((nA.out _).2 bA);clear bA;go_wp2_with (first
    |(at_lookup;refine zAA _ rfl _ _ 177 rfl 9 67 zOw zLr (zFl _) M W.sn _ rfl tA.out _ _ rfl iA.out _ cB.out true Hc.out ?_)
    |fail)
   clear x0 x2 x4 x6 x8 gA y0 y1 y2 y3 y4 y5 y6 y7 z0 z1 z2 z3 z4 z5 z6 z7 q0 q1 q2 q3 q4 q5 q6 q7 bB tA HV HX HM hb kA jA iA cB Hc;generalize (wr.alloc (.cells #[.int .i64 (W.zRP k).id,.string (W.zRP k).name,.string (W.zRP k).set,.int .i64 (W.zRP k).zRT,.int .i64 (W.zRP k).time,.int .i64 (W.zRP k).rs,.int .i64 (W.zRP k).rb,.slice ad (W.zRP k).dn cd] 99)).alloc (.cells #[.string s0,.int .i64 i1,.int .i64 i2,.int .i64 i3,.int .i64 i4,.slice sa sn sc] 67)=W2 at pA eB gB lB fA fB ⊢;generalize wr.heap.size=V8 at pA aC ⊢;obtain⟨⟨x0,-⟩,⟨x2,-⟩,⟨x4,-⟩,⟨x6,-⟩,⟨x8,-⟩,⟨gA,-⟩⟩:=gB.out;obtain⟨⟨⟨z0,-⟩,⟨z1,-⟩,⟨z2,-⟩,⟨z3,-⟩⟩,⟨z4,-⟩,⟨z5,-⟩,⟨z6,-⟩,⟨z7,-⟩⟩:=pA.out;obtain⟨⟨⟨l0,m0⟩,⟨l1,n1⟩,⟨l2,n2⟩,⟨l3,n3⟩⟩,⟨l4,n4⟩,⟨l5,n5⟩,⟨l6,n6⟩,⟨l7,n7⟩⟩:=eB.out;refine(zDe (W.zRP k).name _ tB).mono ?_;rintro e wn ⟨⟨tn,rfl,aA⟩,rfl⟩;by_cases hA:yM (W.zRP k).name;rotate_left
   ·have Hn:=zB (show ¬zH1 W k from fun h=>hA h.2.1);obtain rfl:tn=false:=zQ aA hA;clear aA hA;go_wp2;go_ret;exact⟨zG.no fun h=>Hn.out (h.2.1 k eA),fA⟩
   have HA:=zB hA;obtain rfl:tn=true:=aA.2 hA;clear aA hA;by_cases hg:(W.zRP k).id<=(W.zRP k).zRT
   ·have Hn:=zB (show ¬zH1 W k from fun h=>by have:=h.2.2.1;omega);go_wp2;go_ret;exact⟨zG.no fun h=>Hn.out (h.2.1 k eA),fA⟩
   have Hg:=zB (show(W.zRP k).zRT<(W.zRP k).id by omega);go_wp2_with fail;clear hg;refine(zGt _ _ _ _).mono ?_;rintro e wn ⟨⟨tn,rfl,aA⟩,rfl⟩;by_cases hB:Mid (zEK W.zRP k).id (W.zRP k).id W.next;rotate_left
   ·have Hn:=zB (show ¬zH1 W k from fun h=>hB h.2.2.2.1);obtain rfl:tn=false:=zQ aA hB;clear aA hB;go_wp2;go_ret;exact⟨zG.no fun h=>Hn.out (h.2.1 k eA),fA⟩
   have HB:=zB hB;obtain rfl:tn=true:=aA.2 hB;clear aA hB;go_wp2_with fail;refine(zGt _ _ _ _).mono ?_;rintro e wn ⟨⟨tn,rfl,aA⟩,rfl⟩;by_cases hB:Mid (zEK W.zRP k).time (W.zRP k).time W.time;rotate_left
   ·have Hn:=zB (show ¬zH1 W k from fun h=>hB h.2.2.2.2);obtain rfl:tn=false:=zQ aA hB;clear aA hB;go_wp2;go_ret;exact⟨zG.no fun h=>Hn.out (h.2.1 k eA),fA⟩
   have bC:=zB hB;obtain rfl:tn=true:=aA.2 hB;clear aA hB;go_wp2;go_roundw
   case rel=>exact⟨k+1,_,_,_,by omega,by go_num,zo eA lA.out ⟨dB.out,HA.out,Hg.out,HB.out,bC.out⟩,eB.out.put _ _ _ _ _ _ _ _,gB.out.zRR (zF.put8 _ L _ _ _ _ _ _ _ _) (by omega),lB.out.put8 (by omega) _ _ _ _ _ _ _ _,zMT fA (by omega) _ _ _ _ _ _ _ _⟩
   case measure=>simp[intOf];omega
  ·obtain rfl:k=W.pn:=(by omega);go_wp2_with fail;clear x0 x2 x4 x6 x8 gA;refine(zHr _ W.pn lo hi W.zRP _ (Hp.out.zRP.zRJ hb) hn).mono ?_;rintro e w6 ⟨⟨t6,rfl,oB⟩,sB⟩;have Ht:=zB oB;clear oB;go_wp2;go_ret;exact⟨⟨t6,rfl,Ht.out.trans ⟨fun hA=>⟨hn,lA.out,hA⟩,fun hA=>hA.2.2⟩⟩,zA hb sB⟩
def zCI(W:zH):Prop:=∀i,i<W.pn->∀j,j<i->(W.zRP j).id≠(W.zRP i).id
def zBb(w:World)(lo hi:Nat)(W:zH)(A:Nat):Prop:=∃M vd,zX w A 0 (.map (some M))/\zCT w W M W.pn vd/\zEi w lo hi W.pn W.zRP vd
abbrev zGO(A:Nat):Value:=.func (.func 190) #[] #[.pointer (some ⟨A,0,none⟩)]
theorem zBb.zRJ{w w':World}{lo hi:Nat}{W:zH}{A:Nat}(h:zBb w lo hi W A)(t:Below w.heap.size w w'):zBb w' lo hi W A:=by
 obtain⟨M,vd,h1,h2,h3⟩:=h;exact⟨M,vd,h1.zRJ t,h2.zRJ t,fun i hi'=>(h3 i hi').zRJ t⟩
theorem zOa(w:World):(zeroValue 99).run Tryz.prog w = .ok (.agg #[.int .i64 0,.string ⟨#[]⟩,.string ⟨#[]⟩,.int .i64 0,.int .i64 0,.int .i64 0,.int .i64 0,.slice none 0 0]) w:=by kernel_rfl
theorem zMa{W:zH}{w:World}{lo hi:Nat}{vd:Nat->Value}(hD:zCI W)(hd:zEi w lo hi W.pn W.zRP vd)(x:Int):∃a c,(putD (fun i=>zKE (W.zRP i).id) (fun i=>yg (vd i) (W.zRP i)) W.pn).atKey (zKE x) (.held (.agg #[.int .i64 0,.string ⟨#[]⟩,.string ⟨#[]⟩,.int .i64 0,.int .i64 0,.int .i64 0,.int .i64 0,.slice none 0 0])) = .held (yg (.slice a (zN W x).dn c) (zN W x))/\zR w lo hi (.slice a (zN W x).dn c) (zN W x).dn (zN W x).ds (zN W x).db:=by
 have hk:zDo (fun i=>zKE (W.zRP i).id):=fun i=>zO8 _
 by_cases hx:∃k,yA W x k
 ·obtain⟨k,aA⟩:=hx;rw[yB aA];have hp:=hd k aA.1;obtain⟨_,a,c,hv,_⟩:=id hp;refine⟨a,c,?_,by rw[<-hv];exact hp⟩;have:=zKt hk (fun i=>yg (vd i) (W.zRP i)) (.held (.agg #[.int .i64 0,.string ⟨#[]⟩,.string ⟨#[]⟩,.int .i64 0,.int .i64 0,.int .i64 0,.int .i64 0,.slice none 0 0])) W.pn k aA.1 (fun j h1 h2 e=>hD j h2 k h1 (zLg e).symm);rw[aA.2.1]at this;rw[this,hv]
 ·have e:zN W x=yP:=(by unfold zN;rw[dif_neg hx]);rw[e];refine⟨none,0,?_,⟨Nat.zero_le _,none,0,rfl,Nat.le_refl _,fun h=>absurd h (by simp[yP])⟩⟩;refine zGG hk _ (fun i hi' e2=>?_) _;exact hx (zGe (Nat.le_refl _) ⟨i,hi',zLg e2⟩)
theorem zBe(lo hi:Nat)(W:zH)(A:Nat)(x:Int)(w:World)(h:zBb w lo hi W A)(hD:zCI W)(hx:(Lit.int .i64 x).wf=true)(hn:W.pn<=20) :
  Calls Tryz.prog 190 #[.int .i64 x,.pointer (some ⟨A,0,none⟩)] w fun e w'=>∃a c,e = .returned (yg (.slice a (zN W x).dn c) (zN W x))/\zR w lo hi (.slice a (zN W x).dn c) (zN W x).dn (zN W x).ds (zN W x).db/\Below w.heap.size w w':=by
 obtain⟨M,vd,hc,hm,hd⟩:=h;obtain⟨a,c,dA,hp⟩:=zMa hD hd x;have eA:=zB dA;have fA:=zB hp;have cA:=zB (zNV hx);clear dA hp hd hx;unfold yg at eA ⊢;generalize zN W x=S at *;have bA:=zC w (.cells #[.int .i64 0,.string ⟨#[]⟩,.string ⟨#[]⟩,.int .i64 0,.int .i64 0,.int .i64 0,.int .i64 0,.slice none 0 0] 99);have HM:=zB (hm.zRJ bA);obtain⟨x0,-⟩:=hc.zRJ bA;have aA:=zC w (.cells #[.int .i64 S.id,.string S.name,.string S.set,.int .i64 S.zRT,.int .i64 S.time,.int .i64 S.rs,.int .i64 S.rb,.slice a S.dn c] 99);obtain⟨⟨⟨y0,-⟩,⟨y1,-⟩,⟨y2,-⟩,⟨y3,-⟩⟩,⟨y4,-⟩,⟨y5,-⟩,⟨y6,-⟩,⟨y7,-⟩⟩:=zCF.zRL w (.int .i64 S.id) (.string S.name) (.string S.set) (.int .i64 S.zRT) (.int .i64 S.time) (.int .i64 S.rs) (.int .i64 S.rb) (.slice a S.dn c) 99;clear hm hc bA;go_enter Tryz.func190,Tryz.ntmps190;go_wp2_with (first
  |(at_lookup;refine zF9 _ rfl _ _ 218 rfl 2 99 zQ8 zPg (zOa _) M W.pn _ rfl HM.out _ _ rfl cA.out _ eA.out ?_)
  |go_in)
 refine bodyPost_ret (v:=.agg #[.int .i64 S.id,.string S.name,.string S.set,.int .i64 S.zRT,.int .i64 S.time,.int .i64 S.rs,.int .i64 S.rb,.slice a S.dn c]) (by simp[results,Tryz.results190,go_sem,y0,y1,y2,y3,y4,y5,y6,y7]) rfl ⟨a,c,rfl,fA.out,aA⟩
theorem zG0(v0 v1 v2 v3:Value)(lo hi:Nat)(W:zH)(w:World)(h:zl w lo hi v0 v1 v2 v3 W)(hn:W.pn<=20)(dA:zNd W.pn W.zRP) :
  Calls Tryz.prog 152 #[zz v0 v1 v2 v3 W] w fun e w'=>∃A,e = .returned (zGO A)/\zBb w' lo hi W A/\Below w.heap.size w w':=by
 have Hp:=zB h;clear h;have gA:∀(fn:Fn) (first cA:Array Value) (w:World),(Instr.makeFunc fn first cA).run Tryz.prog w = .ok (.func fn first cA) w:=fun _ _ _ _=>rfl
 have ha:=zC w (.cells #[v0,v1,.int .i64 W.time,.int .i64 W.next,v2,v3] 37);obtain⟨⟨x0,-⟩,⟨x2,-⟩,⟨x4,-⟩,⟨x6,-⟩,⟨x8,-⟩,⟨fA,-⟩⟩:=zi.zRL w v0 v1 (.int .i64 W.time) (.int .i64 W.next) v2 v3 37;go_enter Tryz.func152,Tryz.ntmps152;go_wp2_with fail;clear x0 x2 x4 x6 x8 fA;generalize w.alloc (.cells #[v0,v1,.int .i64 W.time,.int .i64 W.next,v2,v3] 37)=W0 at ha ⊢;refine(zIv v0 v1 v2 v3 lo hi W W0 (Hp.out.zRJ ha) hn dA).mono ?_;rintro e w1 ⟨vd,rfl,hm,hd,bA⟩;have aA:=zC w1 (.cells #[.map (some (W0.heap.size+1))] 218);have hc:zX (w1.alloc (.cells #[.map (some (W0.heap.size+1))] 218)) w1.heap.size 0 (.map (some (W0.heap.size+1))):=zI (heap_alloc_new _ _) rfl;have HA:=zB (show zBb (w1.alloc (.cells #[.map (some (W0.heap.size+1))] 218)) lo hi W w1.heap.size from⟨_,vd,hc,hm.zRJ aA,fun i hi'=>((hd i hi').zRJ bA).zRJ aA⟩);have eA:=zA (zA ha bA) aA;clear hm hd bA aA hc;go_wp2;go_ret;exact⟨_,rfl,HA.out,eA⟩
end Go.Proofs.YtmgeglgboadfiaaGreatDoor
