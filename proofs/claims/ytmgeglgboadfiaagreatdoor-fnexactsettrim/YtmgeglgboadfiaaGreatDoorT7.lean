/- The line of a set by Prev, as plain facts (no law is proved here). -/
import Derived.Test.YtmgeglgboadfiaaGreatDoorT6
import Derived.WideKeyPair
import Derived.DeepKeys4
set_option linter.unusedVariables false
set_option maxRecDepth 20000
set_option maxHeartbeats 4000000
namespace Go.Proofs.YtmgeglgboadfiaaGreatDoor
open Go.RowKit Go.Maps
open Classical in
noncomputable def yt(W:zH)(name:ByteArray):Nat->Nat
 | 0=>0
 | k+1=>yt W name k+(if (W.zRP k).set=name then 1 else 0)
theorem zIW{W:zH}{name:ByteArray}{k:Nat}(h:(W.zRP k).set=name):yt W name (k+1)=yt W name k+1:=by simp[yt,h]
theorem zJ0{W:zH}{name:ByteArray}{k:Nat}(h:¬(W.zRP k).set=name):yt W name (k+1)=yt W name k:=by simp[yt,h]
theorem zHL(W:zH)(name:ByteArray):∀k,yt W name k<=k
 | 0=>Nat.le_refl _
 | k+1=>by
  have:=zHL W name k;by_cases h:(W.zRP k).set=name
  ·rw[zIW h];omega
  ·rw[zJ0 h];omega
inductive Steps (W:zH) (name:ByteArray) (start:Int):Nat->Int->Prop
 | zero:Steps W name start 0 start
 | next {n:Nat} {x:Int} {k:Nat}:Steps W name start n x->qz W x k->(W.zRP k).set=name->Steps W name start (n+1) (W.zRP k).zRT
def zF0(W:zH)(name:ByteArray)(x:Int):Prop:=∃k,qz W x k/\(W.zRP k).set=name
def zBc(W:zH)(name:ByteArray)(start origin:Int):Prop:=∃n e,Steps W name start n e/\¬zF0 W name e/\n=yt W name W.pn/\e=origin
theorem Steps.det{W:zH}{name:ByteArray}{start:Int}:∀{n:Nat} {x y:Int},Steps W name start n x->Steps W name start n y->x=y
 | 0,_,_,.zero,.zero=>rfl
 | n+1,_,_,.next h hk _,.next h' hk' _=>by
  have e:=Steps.det h h';subst e;rw[qz.uniq hk hk']
theorem Steps.less{W:zH}{name:ByteArray}{start:Int}:∀{n m:Nat} {x:Int},Steps W name start m x->n<m->∃y,Steps W name start n y/\zF0 W name y
 | n,0,_,_,h=>absurd h (Nat.not_lt_zero _)
 | n,m+1,_,.next (x:=x) h hk hs,hl=>by
  by_cases e:n=m
  ·subst e;exact⟨x,h,_,hk,hs⟩
  ·exact Steps.less h (by omega)
theorem Steps.end{W:zH}{name:ByteArray}{start:Int}{n m:Nat}{x y:Int}(h:Steps W name start n x)(hx:¬zF0 W name x)(h':Steps W name start m y)(hy:¬zF0 W name y):n=m/\x=y:=by
 have e:n=m:=by
  rcases Nat.lt_trichotomy n m with hl | hl | hl
  ·obtain⟨z,hz,ho⟩:=h'.less hl;rw[h.det hz]at hx;exact absurd ho hx
  ·exact hl
  ·obtain⟨z,hz,ho⟩:=h.less hl;rw[h'.det hz]at hy;exact absurd ho hy
 subst e;exact⟨rfl,h.det h'⟩
theorem zCk{W:zH}{name:ByteArray}{start origin:Int}{n:Nat}{x:Int}(h:Steps W name start n x)(hx:¬zF0 W name x):zBc W name start origin↔n=yt W name W.pn/\x=origin:=by
 constructor
 ·rintro⟨m,y,hs,hy,h1,h2⟩;obtain⟨rfl,rfl⟩:=h.end hx hs hy;exact⟨h1,h2⟩
 ·rintro⟨h1,h2⟩;exact⟨n,x,h,hx,h1,h2⟩
theorem zHr{W:zH}{x r:Int}{k:Nat}(hk:qz W x k)(h:zF5 W.pn (fun k=>(W.zRP k).id=x) r):r=(k:Int):=by
 rcases h with⟨j,hj,e,hm,rfl⟩ | ⟨hn,_⟩
 ·rw[qz.uniq hk ⟨hj,e,hm⟩]
 ·exact absurd hk.2.1 (hn k hk.1)
theorem qu.no{W:zH}{x:Int}(h:qu W x):∃k,qz W x k:=zGF (Nat.le_refl _) h
structure zB5 (W:zH):Prop where
 ids:∀k,k<W.pn->1<=(W.zRP k).id/\(W.zRP k).id<900000
 zRT:∀k,k<W.pn->(W.zRP k).zRT=0\/qu W (W.zRP k).zRT
 less:∀k,k<W.pn->(W.zRP k).zRT<(W.zRP k).id
 zRS:∀k,k<W.sn->(W.zRS k).zRT=0\/qu W (W.zRS k).zRT
 zRa:∀k,k<W.sn->(W.zRS k).name.toList.isEmpty=false
theorem zB5.pos{W:zH}(h:zB5 W):zCS W:=fun k hk=>(h.ids k hk).1
theorem qu.range{W:zH}(h:zB5 W){x:Int}(hx:qu W x):1<=x/\x<900000:=by
 obtain⟨k,hk,rfl⟩:=hx;exact h.ids k hk
theorem zC5{s:ByteArray}(h:yM s):s.toList.isEmpty=false:=by
 have:=h.1;rw[Go.ByteArray.toList_eq];cases s with
 | mk d=>
  cases hd:d.toList with
  | nil=>
   have h0:d.size=0:=(by rw[<-Array.length_toList,hd];rfl);have h1:1<=d.size:=this;omega
  | cons a l=>simp
theorem zBM.prevOk{W:zH}(h:zBM W):zB5 W where
 ids:=fun k hk=>⟨(h.2.2.2.2.2 k hk).1.1,by have:=(h.2.2.2.2.2 k hk).1.2.1;have:=h.2.1.2;omega⟩
 zRT:=fun k hk=>by
  by_cases e:(W.zRP k).zRT=0
  ·exact Or.inl e
  ·exact Or.inr ((h.2.2.2.2.2 k hk).2.1.2 e).2
 less:=fun k hk=>by
  by_cases e:(W.zRP k).zRT=0
  ·have:=(h.2.2.2.2.2 k hk).1.1;omega
  ·exact((h.2.2.2.2.2 k hk).2.1.2 e).1
 zRS:=fun k hk=>by
  by_cases e:(W.zRS k).zRT=0
  ·exact Or.inl e
  ·exact Or.inr ((h.2.2.2.2.1 k hk).2.2.1 e)
 zRa:=fun k hk=>zC5 (h.2.2.2.2.1 k hk).1
structure zCb (W:zH) (name:ByteArray) (start:Int) (n:Nat) (x:Int):Prop where
 steps:Steps W name start n x
 there:x=0\/qu W x
 least:0<=x
 sum:(n:Int)+x<=900000
theorem zCb.start{W:zH}(h:zB5 W)(name:ByteArray){x:Int}(hx:x=0\/qu W x):zCb W name x 0 x where
 steps:=.zero
 there:=hx
 least:=by rcases hx with rfl | hx;exact Int.le_refl _;have:=hx.range h;omega
 sum:=by rcases hx with rfl | hx;decide;have:=hx.range h;omega
theorem zCb.next{W:zH}(h:zB5 W){name:ByteArray}{start:Int}{n:Nat}{x:Int}(hw:zCb W name start n x){k:Nat}(hk:qz W x k)(hs:(W.zRP k).set=name):zCb W name start (n+1) (W.zRP k).zRT where
 steps:=hw.steps.next hk hs
 there:=h.zRT k hk.1
 least:=by rcases h.zRT k hk.1 with e | e;omega;have:=e.range h;omega
 sum:=by have h1:=h.less k hk.1;have h2:=hw.sum;have h3:=hk.2.1;omega
theorem zKP{W:zH}(h:zB5 W)(name:ByteArray):¬zF0 W name 0:=fun ⟨k,hk,_⟩=>by
 have:=(h.ids k hk.1).1;have:=hk.2.1;omega
theorem zMM{W:zH}{name:ByteArray}{x:Int}{k:Nat}(hk:qz W x k)(hs:¬(W.zRP k).set=name):¬zF0 W name x:=fun ⟨j,hj,e⟩=>hs (by rw[qz.uniq hk hj];exact e)
theorem zIm(v0 v1 v2 v3:Value)(lo hi:Nat)(W:zH)(w:World)(h:zl w lo hi v0 v1 v2 v3 W)(hP:zB5 W)(hs:W.sn<=8)(hp:W.pn<=20) :
  Calls Tryz.prog 70 #[zz v0 v1 v2 v3 W] w fun e w'=>zG (∀i,i<W.sn->zBc W (W.zRS i).name (W.zRS i).zRT (W.zRS i).origin) e/\Below w.heap.size w w':=by
 have Hp:=zB h;have HP:=zB hP;obtain⟨m1,a,c,rfl,mc,-⟩:=id h.zRP;obtain⟨m2,a',c',rfl,tB,-⟩:=id h.zRS;unfold maxLen at m1 m2;clear h hP;have ha:=zC w (.cells #[v0,v1,.int .i64 W.time,.int .i64 W.next,.slice a' W.sn c',.slice a W.pn c] 37);have HB:=zB (zi.zRL w v0 v1 (.int .i64 W.time) (.int .i64 W.next) (.slice a' W.sn c') (.slice a W.pn c) 37);go_enter Tryz.func70,Tryz.ntmps70;go_wp2
 go_loopw [3] (fun i wr=>∃k:Nat,k<=W.sn/\i = .int .i64 k/\(∀j,j<k->zBc W (W.zRS j).name (W.zRS j).zRT (W.zRS j).origin)/\zi wr w.heap.size v0 v1 (.int .i64 W.time) (.int .i64 W.next) (.slice a' W.sn c') (.slice a W.pn c)/\Below w.heap.size w wr) (fun i _=>W.sn - (intOf i).toNat)
 case atStart=>exact⟨0,Nat.zero_le _,rfl,fun j hj=>absurd hj (Nat.not_lt_zero _),HB.out,ha⟩
 case round=>
  obtain⟨k,hk,rfl,nA,hX,hb⟩:=hrel;have gA:=zB nA;have HX:=zB hX;clear nA hX ha HB;obtain⟨⟨x0,-⟩,⟨x2,-⟩,⟨x4,-⟩,⟨x6,-⟩,⟨x8,-⟩,⟨jA,-⟩⟩:=HX.out;by_cases cA:k<W.sn;rotate_left
  ·obtain rfl:k=W.sn:=(by omega);go_wp2;go_ret;exact⟨zG.yes gA.out,hb⟩
  have pB:(k:Int)<(W.sn:Int):=(by omega);obtain⟨b,off,vd,rfl,-⟩:=(Hp.out.zRS.zRJ hb).cells cA;go_wp2;clear x0 x2 x4 x6 x8 jA
  go_loopw [5,6] (fun o i wr=>∃j:Nat,j<=W.pn/\i = .int .i64 j/\o = .int .i64 (yt W (W.zRS k).name j)/\zi wr w.heap.size v0 v1 (.int .i64 W.time) (.int .i64 W.next) (.slice (some ⟨b,off,none⟩) W.sn c') (.slice a W.pn c)/\Below w.heap.size w wr) (fun _ i _=>W.pn - (intOf i).toNat)
  case atStart=>exact⟨0,Nat.zero_le _,rfl,rfl,HX.out,hb⟩
  case round=>
   clear HX hb;obtain⟨j,hj,rfl,rfl,hX,hb⟩:=hrel;have HX:=zB hX;clear hX;obtain⟨⟨x0,-⟩,⟨x2,-⟩,⟨x4,-⟩,⟨x6,-⟩,⟨x8,-⟩,⟨jA,-⟩⟩:=HX.out;obtain⟨b',cB,lB,e',eA⟩:=(Hp.out.zRS.zRJ hb).cells cA;cases e';have n0:=eA.c0;have n1:=eA.c1;have n2:=eA.c2;clear eA;have aC:=zHL W (W.zRS k).name j;by_cases mB:j<W.pn
   ·have fB:(j:Int)<(W.pn:Int):=(by omega);obtain⟨b2,aA,jB,rfl,kA⟩:=(Hp.out.zRP.zRJ hb).cells mB;have q2:=kA.c2;clear kA;have sB:((yt W (W.zRS k).name j:Nat):Int)<1000:=(by omega);by_cases he:(W.zRP j).set=(W.zRS k).name
    ·have f1:=zCa he;have H1:=zB (zIW he);clear he;go_wp2
     go_quiet (fail)
     go_wp2;go_roundw
     case rel=>exact⟨j+1,by omega,by go_num,by rw[H1.out];go_num,HX.out.zRJ (zg (Below.refl _ _) _),zg hb _⟩
     case measure=>simp[intOf];omega
    ·have f1:=zD1 he;have H1:=zB (zJ0 he);clear he;go_wp2
     go_quiet (fail)
     go_wp2;go_roundw
     case rel=>exact⟨j+1,by omega,by go_num,by rw[H1.out],HX.out.zRJ (zg (Below.refl _ _) _),zg hb _⟩
     case measure=>simp[intOf];omega
   ·obtain rfl:j=W.pn:=(by omega);go_wp2;clear x0 x2 x4 x6 x8 jA n0 n1 n2
    go_loopw [4,7] (fun i x wr=>∃(n:Nat) (y:Int),i = .int .i64 n/\x = .int .i64 y/\zCb W (W.zRS k).name (W.zRS k).zRT n y/\zi wr w.heap.size v0 v1 (.int .i64 W.time) (.int .i64 W.next) (.slice (some ⟨b,off,none⟩) W.sn c') (.slice a W.pn c)/\Below w.heap.size w wr) (fun _ x _=>(intOf x).toNat)
    case atStart=>exact⟨0,_,rfl,rfl,zCb.start HP.out _ (HP.out.zRS k cA),HX.out,hb⟩
    case round=>
     clear HX hb;obtain⟨n,y,rfl,rfl,hw,hX,hb⟩:=hrel;have HX:=zB hX;have Hw:=zB hw;have iB:=hw.sum;have vB:=hw.least;clear hX hw;obtain⟨⟨x0,-⟩,⟨x2,-⟩,⟨x4,-⟩,⟨x6,-⟩,⟨x8,-⟩,⟨jA,-⟩⟩:=HX.out;obtain⟨b',cB,lB,e',eA⟩:=(Hp.out.zRS.zRJ hb).cells cA;cases e';have n0:=eA.c0;have n1:=eA.c1;clear eA;by_cases hz:y=0
     ·have fA:=zB (show ¬zF0 W (W.zRS k).name y by rw[hz];exact zKP HP.out _);have tA:(y == 0)=true:=(by simp[hz]);have pA:decide (y=0)=true:=(by simp[hz]);have rA:(y != 0)=false:=(by simp[hz]);clear hz;go_wp2_with fail
      go_quiet (fail)
      clear tA pA rA;have dA:=zB HX.out;clear x0 x2 x4 x6 x8 jA;obtain⟨⟨e0,-⟩,⟨e2,-⟩,⟨e4,-⟩,⟨e6,-⟩,⟨e8,-⟩,⟨dB,-⟩⟩:=dA.out;by_cases h1:n=yt W (W.zRS k).name W.pn
      ·by_cases h2:y=(W.zRS k).origin
       ·have Hl:=zB ((zCk (origin:=(W.zRS k).origin) Hw.out.steps fA.out).2 ⟨h1,h2⟩);have g1:((n:Int) == (yt W (W.zRS k).name W.pn:Int))=true:=(by simp[h1]);have g2:((n:Int) != (yt W (W.zRS k).name W.pn:Int))=false:=(by simp[h1]);have g3:decide ((n:Int)=(yt W (W.zRS k).name W.pn:Int))=true:=(by simp[h1]);have g4:(y == (W.zRS k).origin)=true:=(by simp[h2]);have g5:(y != (W.zRS k).origin)=false:=(by simp[h2]);have g6:decide (y=(W.zRS k).origin)=true:=(by simp[h2]);clear h1 h2;go_wp2;go_roundw
        case rel=>exact⟨k+1,by omega,by go_num,zo cA gA.out Hl.out,HX.out.zRJ (zg (Below.refl _ _) _),zg hb _⟩
        case measure=>simp[intOf];omega
       ·have Hl:=zB (show ¬zBc W (W.zRS k).name (W.zRS k).zRT (W.zRS k).origin from fun h=>h2 ((zCk Hw.out.steps fA.out).1 h).2);have g1:((n:Int) == (yt W (W.zRS k).name W.pn:Int))=true:=(by simp[h1]);have g2:((n:Int) != (yt W (W.zRS k).name W.pn:Int))=false:=(by simp[h1]);have g3:decide ((n:Int)=(yt W (W.zRS k).name W.pn:Int))=true:=(by simp[h1]);have g4:(y == (W.zRS k).origin)=false:=(by simp[h2]);have g5:(y != (W.zRS k).origin)=true:=(by simp[h2]);have g6:decide (y=(W.zRS k).origin)=false:=(by simp[h2]);clear h1 h2;go_wp2;go_ret;exact⟨zG.no fun hA=>Hl.out (hA k cA),zg hb _⟩
      ·have Hl:=zB (show ¬zBc W (W.zRS k).name (W.zRS k).zRT (W.zRS k).origin from fun h=>h1 ((zCk Hw.out.steps fA.out).1 h).1);have h3:¬(n:Int)=(yt W (W.zRS k).name W.pn:Int):=(by omega);have g1:((n:Int) == (yt W (W.zRS k).name W.pn:Int))=false:=(by simp[h3]);have g2:((n:Int) != (yt W (W.zRS k).name W.pn:Int))=true:=(by simp[h3]);have g3:decide ((n:Int)=(yt W (W.zRS k).name W.pn:Int))=false:=(by simp[h3]);clear h1 h3;go_wp2;go_ret;exact⟨zG.no fun hA=>Hl.out (hA k cA),zg hb _⟩
     ·obtain⟨kk,sA⟩:=(Hw.out.there.resolve_left hz).no;have oA:=zB sA;have aB:kk<W.pn:=sA.1;have gB:(kk:Int)<(W.pn:Int):=(by omega);have bB:=(HP.out.ids kk aB).1;have vA:=sA.2.1;have bC:1<=y:=(by omega);have mA:=HP.out.less kk aB;have oB:=zB (show(W.zRP kk).zRT<y by omega);clear sA bB vA mA;have tA:(y == 0)=false:=(by simp[hz]);have pA:decide (y=0)=false:=(by simp[hz]);have rA:(y != 0)=true:=(by simp[hz]);clear hz;obtain⟨b2,aA,jB,rfl,kA⟩:=(Hp.out.zRP.zRJ hb).cells aB;have q2:=kA.c2;have q3:=kA.c3;clear kA;by_cases he:(W.zRP kk).set=(W.zRS k).name
      ·have eB:=zB (Hw.out.next HP.out oA.out he);rw[he]at q2;clear he;go_wp2_with fail;go_region_held3 (fun w'=>w'.cell? ⟨w.heap.size,0,none⟩=some v0/\w'.cell? ⟨w.heap.size,1,none⟩=some v1/\w'.cell? ⟨w.heap.size,2,none⟩=some (.int .i64 W.time)/\w'.cell? ⟨w.heap.size,3,none⟩=some (.int .i64 W.next)/\w'.cell? ⟨w.heap.size,4,none⟩=some (.slice (some ⟨b,off,none⟩) W.sn c')/\w'.cell? ⟨w.heap.size,5,none⟩=some (.slice (some ⟨b2,aA,none⟩) W.pn c)/\w'.cell? ⟨b2,aA+kk*8+2,none⟩=some (.string (W.zRS k).name)/\w'.cell? ⟨b,off+k*6,none⟩=some (.string (W.zRS k).name)) (go_keep)
        (first | (go_at_call 49;refine(qH v0 v1 _ _ lo hi W y _ ?_).mono ?_;(exact(Hp.out.zRJ hb).zRJ (Below.refl _ _).drew);rintro e w6 ⟨r,rfl,hF,bA⟩;obtain rfl:=zHr oA.out hF;obtain⟨⟨y0,_⟩,⟨y1,_⟩,⟨y2,_⟩,⟨y3,_⟩,⟨y4,_⟩,⟨y5,_⟩⟩:=HX.out.zRJ (zK bA);have z2:=(bA.cell (p:=⟨b2,aA+kk*8+2,none⟩) (zD q2)).trans q2;have z0:=(bA.cell (p:=⟨b,off+k*6,none⟩) (zD n0)).trans n0))
       have dA:=zB (HX.out.zRJ (zK bA));have iA:=qh hb bA;have z3:=(bA.cell (p:=⟨b2,aA+kk*8+3,none⟩) (zD q3)).trans q3;have z1:=(bA.cell (p:=⟨b,off+k*6+1,none⟩) (zD n1)).trans n1;clear bA HX hb hF y0 y1 y2 y3 y4 y5 x0 x2 x4 x6 x8 jA q2 q3 n0 n1 tA pA rA;have rB:(n:Int)<1000000:=(by omega);obtain⟨⟨e0,-⟩,⟨e2,-⟩,⟨e4,-⟩,⟨e6,-⟩,⟨e8,-⟩,⟨dB,-⟩⟩:=dA.out;go_wp2_with fail;go_region_held3 (fun w'=>w'.cell? ⟨w.heap.size,0,none⟩=some v0/\w'.cell? ⟨w.heap.size,1,none⟩=some v1/\w'.cell? ⟨w.heap.size,2,none⟩=some (.int .i64 W.time)/\w'.cell? ⟨w.heap.size,3,none⟩=some (.int .i64 W.next)/\w'.cell? ⟨w.heap.size,4,none⟩=some (.slice (some ⟨b,off,none⟩) W.sn c')/\w'.cell? ⟨w.heap.size,5,none⟩=some (.slice (some ⟨b2,aA,none⟩) W.pn c)/\w'.cell? ⟨b2,aA+kk*8+3,none⟩=some (.int .i64 (W.zRP kk).zRT)) (go_keep)
        (first | (go_at_call 49;refine(qH v0 v1 _ _ lo hi W y _ ?_).mono ?_;(exact(Hp.out.zRJ iA).zRJ (Below.refl _ _).drew);rintro e w7 ⟨r,rfl,hF,lA⟩;obtain rfl:=zHr oA.out hF;obtain⟨⟨y0,_⟩,⟨y1,_⟩,⟨y2,_⟩,⟨y3,_⟩,⟨y4,_⟩,⟨y5,_⟩⟩:=dA.out.zRJ (zK lA);have z4:=(lA.cell (p:=⟨b2,aA+kk*8+3,none⟩) (zD z3)).trans z3))
       have nB:=zB (dA.out.zRJ (zK lA));have kB:=qh iA lA;clear lA dA iA hF y0 y1 y2 y3 y4 y5 e0 e2 e4 e6 e8 dB;go_wp2;go_roundw
       case rel=>exact⟨n+1,_,by go_num,rfl,eB.out,nB.out,kB⟩
       case measure=>simp[intOf];have:=oB.out;have:=eB.out.least;omega
      have fA:=zB (zMM oA.out he);have f1:=zD1 he;clear he;go_wp2_with fail;go_region_held3 (fun w'=>w'.cell? ⟨w.heap.size,0,none⟩=some v0/\w'.cell? ⟨w.heap.size,1,none⟩=some v1/\w'.cell? ⟨w.heap.size,2,none⟩=some (.int .i64 W.time)/\w'.cell? ⟨w.heap.size,3,none⟩=some (.int .i64 W.next)/\w'.cell? ⟨w.heap.size,4,none⟩=some (.slice (some ⟨b,off,none⟩) W.sn c')/\w'.cell? ⟨w.heap.size,5,none⟩=some (.slice (some ⟨b2,aA,none⟩) W.pn c)/\w'.cell? ⟨b2,aA+kk*8+2,none⟩=some (.string (W.zRP kk).set)/\w'.cell? ⟨b,off+k*6,none⟩=some (.string (W.zRS k).name)) (go_keep)
       (first | (go_at_call 49;refine(qH v0 v1 _ _ lo hi W y _ ?_).mono ?_;(exact(Hp.out.zRJ hb).zRJ (Below.refl _ _).drew);rintro e w6 ⟨r,rfl,hF,bA⟩;obtain rfl:=zHr oA.out hF;obtain⟨⟨y0,_⟩,⟨y1,_⟩,⟨y2,_⟩,⟨y3,_⟩,⟨y4,_⟩,⟨y5,_⟩⟩:=HX.out.zRJ (zK bA);have z2:=(bA.cell (p:=⟨b2,aA+kk*8+2,none⟩) (zD q2)).trans q2;have z0:=(bA.cell (p:=⟨b,off+k*6,none⟩) (zD n0)).trans n0))
      have dA:=zB (HX.out.zRJ (zK bA));have iA:=qh hb bA;have z3:=(bA.cell (p:=⟨b2,aA+kk*8+3,none⟩) (zD q3)).trans q3;have z1:=(bA.cell (p:=⟨b,off+k*6+1,none⟩) (zD n1)).trans n1;clear bA HX hb hF y0 y1 y2 y3 y4 y5 x0 x2 x4 x6 x8 jA q2 q3 n0 n1 tA pA rA;clear f1;obtain⟨⟨e0,-⟩,⟨e2,-⟩,⟨e4,-⟩,⟨e6,-⟩,⟨e8,-⟩,⟨dB,-⟩⟩:=dA.out;by_cases h1:n=yt W (W.zRS k).name W.pn
      ·by_cases h2:y=(W.zRS k).origin
       ·have Hl:=zB ((zCk (origin:=(W.zRS k).origin) Hw.out.steps fA.out).2 ⟨h1,h2⟩);have g1:((n:Int) == (yt W (W.zRS k).name W.pn:Int))=true:=(by simp[h1]);have g2:((n:Int) != (yt W (W.zRS k).name W.pn:Int))=false:=(by simp[h1]);have g3:decide ((n:Int)=(yt W (W.zRS k).name W.pn:Int))=true:=(by simp[h1]);have g4:(y == (W.zRS k).origin)=true:=(by simp[h2]);have g5:(y != (W.zRS k).origin)=false:=(by simp[h2]);have g6:decide (y=(W.zRS k).origin)=true:=(by simp[h2]);clear h1 h2;go_wp2;go_roundw
        case rel=>exact⟨k+1,by omega,by go_num,zo cA gA.out Hl.out,dA.out,iA⟩
        case measure=>simp[intOf];omega
       ·have Hl:=zB (show ¬zBc W (W.zRS k).name (W.zRS k).zRT (W.zRS k).origin from fun h=>h2 ((zCk Hw.out.steps fA.out).1 h).2);have g1:((n:Int) == (yt W (W.zRS k).name W.pn:Int))=true:=(by simp[h1]);have g2:((n:Int) != (yt W (W.zRS k).name W.pn:Int))=false:=(by simp[h1]);have g3:decide ((n:Int)=(yt W (W.zRS k).name W.pn:Int))=true:=(by simp[h1]);have g4:(y == (W.zRS k).origin)=false:=(by simp[h2]);have g5:(y != (W.zRS k).origin)=true:=(by simp[h2]);have g6:decide (y=(W.zRS k).origin)=false:=(by simp[h2]);clear h1 h2;go_wp2;go_ret;exact⟨zG.no fun hA=>Hl.out (hA k cA),iA⟩
      ·have Hl:=zB (show ¬zBc W (W.zRS k).name (W.zRS k).zRT (W.zRS k).origin from fun h=>h1 ((zCk Hw.out.steps fA.out).1 h).1);have h3:¬(n:Int)=(yt W (W.zRS k).name W.pn:Int):=(by omega);have g1:((n:Int) == (yt W (W.zRS k).name W.pn:Int))=false:=(by simp[h3]);have g2:((n:Int) != (yt W (W.zRS k).name W.pn:Int))=true:=(by simp[h3]);have g3:decide ((n:Int)=(yt W (W.zRS k).name W.pn:Int))=false:=(by simp[h3]);clear h1 h3;go_wp2;go_ret;exact⟨zG.no fun hA=>Hl.out (hA k cA),iA⟩
def zC6(W:zH)(i:Nat):Prop:=zDh (zO W i).dn (zO W i).ds (zO W i).db (zAT (zCp W (zO W i)) (yV W (zO W i)))
structure zNX (W:zH):Prop where
 right:zv W.zRQ
 zRa:zBM W
 lines:∀i,i<W.sn->zBc W (W.zRS i).name (W.zRS i).zRT (W.zRS i).origin
 zRP:∀i,i<W.pn->qF W.zRQ (W.zRP i).rs (W.zRP i).rb
 zRS:∀i,i<W.sn->qF W.zRQ (W.zRS i).rs (W.zRS i).rb/\zC6 W (W.pn+i)
 zRX:∀i,i<W.pn->zC6 W i
 reach:zEf W
 born:∀i,i<zq W->zCY W i
 zRW:zGR W
theorem zPa{W:zH}(h:∀k,k<W.pn->qF W.zRQ (W.zRP k).rs (W.zRP k).rb)(x:Int):qF W.zRQ (zN W x).rs (zN W x).rb:=by
 by_cases hx:∃k,qz W x k
 ·obtain⟨k,hk⟩:=hx;rw[yB hk];exact h k hk.1
 ·have:zN W x=yO:=by
   unfold zN;rw[dif_neg hx]
  rw[this];exact Or.inl ⟨rfl,rfl⟩
theorem zH6{W:zH}(hR:zv W.zRQ)(hN:zBM W)(h1:∀i,i<W.pn->qF W.zRQ (W.zRP i).rs (W.zRP i).rb)(h2:∀i,i<W.sn->qF W.zRQ (W.zRS i).rs (W.zRS i).rb):zBH W where
 right:=hR
 ids:=hN.prevOk.less
 tree:=fun i hi=>by
  by_cases hp:i<W.pn
  ·rw[qS hp];exact h1 i hp
  ·have e:=yJ W (i - W.pn);rw[show W.pn+(i - W.pn)=i by omega]at e;rw[e];unfold zq at hi;exact h2 _ (by omega)
 time:=fun i hi=>by
  by_cases hp:i<W.pn
  ·rw[qS hp];have:1<=(W.zRP i).time:=(hN.2.2.2.2.2 i hp).1.2.2.1;show 0<=(W.zRP i).time;omega
  ·have e:=yJ W (i - W.pn);rw[show W.pn+(i - W.pn)=i by omega]at e;rw[e];have:1<=W.time:=hN.1.1;show 0<=W.time;omega
theorem zN8{v0 v1 v2 v3 vd:Value}{lo hi:Nat}{W:zH}{w:World}(h:zl w lo hi v0 v1 v2 v3 W)(hR:zv W.zRQ)(hO:∀k,k<W.pn->qF W.zRQ (W.zRP k).rs (W.zRP k).rb)(hP:zCS W){k:Nat}(hk:k<W.pn)(hD:zR w lo hi vd (W.zRP k).dn (W.zRP k).ds (W.zRP k).db)(w':World)(hb:Below w.heap.size w w') :
  Calls Tryz.prog 72 #[zz v0 v1 v2 v3 W,.int .i64 (W.zRP k).zRT,.agg #[.int .i64 (W.zRP k).rs,.int .i64 (W.zRP k).rb],vd] w' fun e aA=>zG (zC6 W k) e/\Below w'.heap.size w' aA:=by
 unfold zC6;rw[qS hk];exact zG6 v0 v1 v2 v3 vd lo hi lo hi _ _ _ W _ _ _ _ _ w' (h.zRJ hb) (hD.zRJ hb) hR (hO k hk) (zPa hO _) hP rfl rfl
theorem zPC{v0 v1 v2 v3 vd:Value}{lo hi:Nat}{W:zH}{w:World}(h:zl w lo hi v0 v1 v2 v3 W)(hR:zv W.zRQ)(hO:∀k,k<W.pn->qF W.zRQ (W.zRP k).rs (W.zRP k).rb)(hP:zCS W){k:Nat}(hT:qF W.zRQ (W.zRS k).rs (W.zRS k).rb)(hD:zR w lo hi vd (W.zRS k).dn (W.zRS k).ds (W.zRS k).db)(w':World)(hb:Below w.heap.size w w') :
  Calls Tryz.prog 72 #[zz v0 v1 v2 v3 W,.int .i64 (W.zRS k).zRT,.agg #[.int .i64 (W.zRS k).rs,.int .i64 (W.zRS k).rb],vd] w' fun e aA=>zG (zC6 W (W.pn+k)) e/\Below w'.heap.size w' aA:=by
 unfold zC6;rw[yJ];exact zG6 v0 v1 v2 v3 vd lo hi lo hi _ _ _ W _ _ _ _ _ w' (h.zRJ hb) (hD.zRJ hb) hR hT (zPa hO _) hP rfl rfl
def zCE(v:Value):Option (DataW Value×List MemPlace):=some (.held v,[])
theorem zDz{v:Value}{d:DataW Value}{ps:List MemPlace}(h:zCE v=some (d,ps)):d = .held v:=by
 unfold zCE at h;simp only[Option.some.injEq,Prod.mk.injEq]at h;exact h.1.symm
theorem zBu(v:Value):zCE v=some (.held v,[]):=rfl
theorem zFf{P:Program}(w:World){eA:Array Oper}{aA:List Oper}{o:Oper}{a:Act}{Q:Exit->Act->World->Prop}
  (hg:o.guard=none) (m x:Operand) (t:TypeId) (hop:o.op=Op.lookup t m x false)
  (k e:TypeId) (K:Keyed P k) (ht:P.underlying t=some (.map k e)) {z:Value} (hz:(zeroValue e).run P w = .ok z w) (b n:Nat) (D:DataW Value)
  (hm:a.eval m = .map (some b)) (cA:w.ownsMap P k zCE b n D) (key:Value) (kl:Lit) (hx:a.eval x=key) (dA:keyOf P k key=some kl)
  (v:Value) (fA:D.atKey kl (.held z) = .held v) (hK:wpList P eA Q aA (a.put o.dst v) w) :
  wpList P eA Q (o :: aA) a w:=by
 refine wpList_plain hg fun K' gA=>?_
 obtain⟨v',ps,bA,hv⟩:=cA.lookup K ht hz (zBu z) dA;have e1:=zDz hv;rw[fA]at e1;injection e1 with e1;subst e1;unfold Oper.wp;simp[execOp,hop,hm,hx,bA,Result.andThen];exact gA _ _ hK
theorem yz{P:Program}(w:World){dA:Array Oper}{aA:List Oper}{o:Oper}{a:Act}{Q:Exit->Act->World->Prop}
  (hg:o.guard=none) (m x:Operand) (t:TypeId) (hop:o.op=Op.lookup t m x true)
  (k e:TypeId) (K:Keyed P k) (ht:P.underlying t=some (.map k e)) {z:Value} (hz:(zeroValue e).run P w = .ok z w) (b n:Nat) (D:DataW Value)
  (hm:a.eval m = .map (some b)) (bA:w.ownsMap P k zCE b n D) (key:Value) (kl:Lit) (hx:a.eval x=key) (cA:keyOf P k key=some kl)
  (v:Value) (eA:D.atKey kl (.held z) = .held v) (c:Bool) (hc:Maps.has D kl=c) (hK:wpList P dA Q aA (a.put o.dst (.tuple #[v,.bool c])) w) :
  wpList P dA Q (o :: aA) a w:=by
 refine wpList_lookup_own_ok w hg m x t hop k e K ht zCE hz (.held z) [] (zBu z) b n D hm bA key kl hx cA (fun v' ps hv=>?_);have e1:=zDz hv;rw[eA]at e1;injection e1 with e1;subst e1;rw[hc];exact hK
def putD(key:Nat->Lit)(val:Nat->Value):Nat->DataW Value
 | 0=>.map []
 | k+1=>(putD key val k).put (key k) (.held (val k))
def zDa(key:Nat->Lit):Prop:=∀i,WideAt.IsKeyLit (key i)
theorem zCO{key:Nat->Lit}(hk:zDa key)(val:Nat->Value):∀k,Tidy (putD key val k)
 | 0=>tidy_empty
 | k+1=>(zCO hk val k).put (hk k) _
theorem zEK{key:Nat->Lit}(hk:zDa key)(val:Nat->Value)(l:Lit):∀k,Maps.has (putD key val k) l=true↔∃i,i<k/\key i=l
 | 0=>by
  constructor
  ·intro h;exact absurd h (by simp[putD,Maps.has])
  ·rintro⟨i,hi,_⟩;omega
 | k+1=>by
  by_cases hx:key k=l
  ·subst hx;exact⟨fun _=>⟨k,by omega,rfl⟩,fun _=>has_put_same (zCO hk val k).isMap (hk k) _⟩
  ·rw[show Maps.has (putD key val (k+1)) l=Maps.has (putD key val k) l from has_put_other (Ne.symm hx) _,zEK hk val l k];constructor
   ·rintro⟨i,hi,e⟩;exact⟨i,by omega,e⟩
   ·rintro⟨i,hi,e⟩;by_cases h:i=k
    ·subst h;exact absurd e hx
    ·exact⟨i,by omega,e⟩
theorem zGU{key:Nat->Lit}(hk:zDa key)(val:Nat->Value){l:Lit}{k:Nat}(h:∀i,i<k->key i≠l)(z:DataW Value):(putD key val k).atKey l z=z:=by
 refine atKey_of_not_has ?_ _;rw[Bool.eq_false_iff];intro hh;obtain⟨i,hi,e⟩:=(zEK hk val l k).1 hh;exact h i hi e
theorem zJ6{key:Nat->Lit}(hk:zDa key)(val:Nat->Value)(z:DataW Value):∀k i,i<k->(∀j,i<j->j<k->key j≠key i)->(putD key val k).atKey (key i) z = .held (val i)
 | 0,i,hi,_=>absurd hi (Nat.not_lt_zero _)
 | k+1,i,hi,hd=>by
  by_cases e:i=k
  ·subst e;exact atKey_put_same (zCO hk val i).isMap (hk i) _ _
  ·exact(atKey_put_other (Ne.symm (hd k (by omega) (by omega))) _ _).trans (zJ6 hk val z k i (by omega) (fun j h1 h2=>hd j h1 (by omega)))
def zFu(n:Nat)(key:Nat->Lit):Prop:=∀i,i<n->∀k,k<i->key k≠key i
theorem zFR{k:Nat}{f:Nat->Lit}:zFu (k+1) f↔zFu k f/\∀i,i<k->f i≠f k:=by
 constructor
 ·exact fun h=>⟨fun i hi=>h i (by omega),fun i hi=>h k (by omega) i hi⟩
 ·rintro⟨h1,h2⟩ i hi j hj;by_cases e:i=k
  ·subst e;exact h2 j hj
  ·exact h1 i (by omega) j hj
theorem zGJ{key:Nat->Lit}(hk:zDa key)(val:Nat->Value):∀k,Maps.size (putD key val k)<=k/\(Maps.size (putD key val k)=k↔zFu k key)
 | 0=>⟨Nat.le_refl _,fun _ i hi=>by omega,fun _=>rfl⟩
 | k+1=>by
  obtain⟨h1,h2⟩:=zGJ hk val k;have e:Maps.size (putD key val (k+1))=if Maps.has (putD key val k) (key k)then Maps.size (putD key val k)else Maps.size (putD key val k)+1:=size_put (zCO hk val k) _
  by_cases hh:Maps.has (putD key val k) (key k)=true
  ·rw[if_pos hh]at e;rw[e,zFR];refine⟨by omega,fun h=>by omega,fun h=>?_⟩;obtain⟨i,hi,he⟩:=(zEK hk val (key k) k).1 hh;exact absurd he (h.2 i hi)
  ·rw[if_neg hh]at e;rw[e,zFR,<-h2];refine⟨by omega,fun h=>⟨by omega,fun i hi he=>hh ((zEK hk val (key k) k).2 ⟨i,hi,he⟩)⟩,fun h=>by omega⟩
theorem zEL(n:Int)(w:World):Calls Tryz.prog 202 #[.int .i64 n] w fun e w'=>zG (zBq n 1 900000) e/\w'=w:=by
 by_cases h1:1<=n
 ·by_cases h2:n<=900000
  ·go_enter Tryz.func202,Tryz.ntmps202;go_wp2;go_ret;exact⟨zG.yes ⟨h1,h2⟩,rfl⟩
  ·go_enter Tryz.func202,Tryz.ntmps202;go_wp2;go_ret;exact⟨zG.no fun h=>by have:=h.2;omega,rfl⟩
 ·go_enter Tryz.func202,Tryz.ntmps202;go_wp2;go_ret;exact⟨zG.no fun h=>by have:=h.1;omega,rfl⟩
def Mid(a x b:Int):Prop:=a<x/\x<b
theorem zG4(a x b:Int)(w:World):Calls Tryz.prog 222 #[.int .i64 a,.int .i64 x,.int .i64 b] w fun e w'=>zG (Mid a x b) e/\w'=w:=by
 by_cases h1:a<x
 ·by_cases h2:x<b
  ·go_enter Tryz.func222,Tryz.ntmps222;go_wp2;go_ret;exact⟨zG.yes ⟨h1,h2⟩,rfl⟩
  ·go_enter Tryz.func222,Tryz.ntmps222;go_wp2;go_ret;exact⟨zG.no fun h=>by have:=h.2;omega,rfl⟩
 ·go_enter Tryz.func222,Tryz.ntmps222;go_wp2;go_ret;exact⟨zG.no fun h=>by have:=h.1;omega,rfl⟩
def zD8(f:Nat->qC):Nat->ByteArray
 | 0=>⟨#[]⟩
 | k+1=>(f k).name
def zQc(n:Nat)(f:Nat->qC):Prop:=n<=8/\∀i,i<n->yM (f i).name/\zDI (zD8 f i) (f i).name
theorem zI7(v:Value)(n lo hi:Nat)(f:Nat->qC)(w:World)(h:yW w lo hi v n f) :
  Calls Tryz.prog 203 #[v] w fun e w'=>zG (zQc n f) e/\Below w.heap.size w w':=by
 have Hp:=zB h;obtain⟨m1,a,c,rfl,mc,-⟩:=id h;unfold maxLen at m1;clear h;by_cases hn:n<=8;rotate_left
 ·have jA:(8:Int)<(n:Int):=(by omega);go_enter Tryz.func203,Tryz.ntmps203;go_wp2;go_ret;exact⟨zG.no fun h=>hn h.1,Below.refl _ _⟩
 have jA:¬(8:Int)<(n:Int):=by omega
 go_enter Tryz.func203,Tryz.ntmps203;go_wp2
 go_loopw [3,11] (fun l i wr=>∃k:Nat,k<=n/\i = .int .i64 k/\l = .string (zD8 f k)/\(∀j,j<k->yM (f j).name/\zDI (zD8 f j) (f j).name)/\Below w.heap.size w wr) (fun _ i _=>n - (intOf i).toNat)
 case atStart=>exact⟨0,Nat.zero_le _,rfl,rfl,fun j hj=>absurd hj (Nat.not_lt_zero _),Below.refl _ _⟩
 case round=>
  obtain⟨k,hk,rfl,rfl,cA,hb⟩:=hrel;have bA:=zB cA;clear cA;by_cases dA:k<n;rotate_left
  ·obtain rfl:k=n:=(by omega);go_wp2;go_ret;exact⟨zG.yes ⟨hn,bA.out⟩,hb⟩
  have lA:(k:Int)<(n:Int):=(by omega);obtain⟨b,off,vd,rfl,aA⟩:=(Hp.out.zRJ hb).cells dA;obtain⟨-,ad,cd,rfl,-,-⟩:=id aA.zRX;have gA:=zC wr (.cells #[.string (f k).name,.int .i64 (f k).origin,.int .i64 (f k).zRT,.int .i64 (f k).rs,.int .i64 (f k).rb,.slice ad (f k).dn cd] 67);have iA:=zB (zi.zRL wr (.string (f k).name) (.int .i64 (f k).origin) (.int .i64 (f k).zRT) (.int .i64 (f k).rs) (.int .i64 (f k).rb) (.slice ad (f k).dn cd) 67);have fA:=zA hb gA;have q0:=aA.c0;have q1:=aA.c1;have q2:=aA.c2;have q3:=aA.c3;have q4:=aA.c4;have q5:=aA.c5;have kA:=aA.zRZ;obtain⟨⟨y0,y1⟩,-⟩:=iA.out;clear aA gA;go_wp2_with fail;clear q0 q1 q2 q3 q4 q5;refine(zDX (f k).name _ kA).mono ?_;rintro e wn ⟨⟨tn,rfl,eA⟩,rfl⟩;by_cases hA:yM (f k).name;rotate_left
  ·have Hn:=zB hA;obtain rfl:tn=false:=zQ eA hA;clear eA hA;go_wp2;go_ret;exact⟨zG.no fun h=>Hn.out (h.2 k dA).1,fA⟩
  have HA:=zB hA;obtain rfl:tn=true:=eA.2 hA;clear eA hA;by_cases hR:zDI (zD8 f k) (f k).name
  ·have f1:=(zNb (f k).name (zD8 f k)).2 hR;have HR:=zB hR;clear hR;go_wp2;go_roundw
   case rel=>exact⟨k+1,by omega,by go_num,rfl,zo dA bA.out ⟨HA.out,HR.out⟩,fA⟩
   case measure=>simp[intOf];omega
  ·have f1:(Op.bytesLess (f k).name.toList (zD8 f k).toList || (f k).name.toList == (zD8 f k).toList)=true:=by
    cases hc:(Op.bytesLess (f k).name.toList (zD8 f k).toList || (f k).name.toList == (zD8 f k).toList)
    ·exact absurd ((zNb _ _).1 hc) hR
    ·rfl
   have HR:=zB hR;clear hR;go_wp2;go_ret;exact⟨zG.no fun h=>HR.out (h.2 k dA).2,fA⟩
theorem zOf:laidOutB Tryz.prog=true:=by kernel_rfl
theorem zQX:300<=Tryz.prog.types.size+300 - 1/\1<=Tryz.prog.types.size:=by
 have h:decide (1<=Tryz.prog.types.size)=true:=by kernel_rfl
 have:=of_decide_eq_true h;omega
theorem zO2{k:Nat}(h:decide (k<Tryz.prog.types.size)=true):k<Tryz.prog.types.size:=of_decide_eq_true h
theorem zRI:Tryz.prog.underlying 9=some .string:=by kernel_rfl
theorem zQ2:Tryz.prog.underlying 2=some (.int .i64):=by kernel_rfl
theorem zOr:Keyed Tryz.prog 9:=string_keyed zRI
theorem zQ8:Keyed Tryz.prog 2:=int_keyed zQ2
def zCr(s:ByteArray):Lit:=.string s.data.toList
theorem zKd{s:ByteArray}(h:s.size<=maxLen):keyOf Tryz.prog 9 (.string s)=some (zCr s):=by simp[keyOf,mapKey,zCr,h]
theorem zO4{s t:ByteArray}(h:zCr s=zCr t):s=t:=by
 unfold zCr at h;injection h with h;cases s;cases t;simp only[ByteArray.mk.injEq];exact Array.toList_inj.1 h
theorem zLX(s:ByteArray):WideAt.IsKeyLit (zCr s):=trivial
def zJz(x:Int):Lit:=.int .i64 x
theorem zNO{x:Int}(h:(Lit.int .i64 x).wf=true):keyOf Tryz.prog 2 (.int .i64 x)=some (zJz x):=keyOf_int_mk zQ2 h
theorem zLG{x y:Int}(h:zJz x=zJz y):x=y:=by unfold zJz at h;injection h
theorem zPJ(x:Int):WideAt.IsKeyLit (zJz x):=trivial
theorem zQz:Tryz.prog.underlying 266=some (.array 2 9):=by kernel_rfl
theorem zQi:Keyed Tryz.prog 266:=Keyed.of_law (deep_law_laid zOf (m:=5) (by decide) (zO2 (by kernel_rfl)) (by kernel_rfl) (by kernel_rfl))
theorem zP2{s t:ByteArray}(hs:s.size<=maxLen)(ht:t.size<=maxLen):∃l,keyOf Tryz.prog 266 (.agg #[.string s,.string t])=some l:=by
 obtain⟨m,hm⟩:∃m,Tryz.prog.types.size+1=m+2:=⟨Tryz.prog.types.size - 1,by have:=zQX;omega⟩;have hk:Tryz.prog.keyType 266=true:=by kernel_rfl
 have hc:Tryz.prog.cellsOf 266=2:=by kernel_rfl
 have h1:Tryz.prog.cellsOf 9=1:=by kernel_rfl
 unfold keyOf;simp only[zQz];rw[if_pos (by simp[hk,Value.formed,hc]),hm];unfold Program.keyLits;simp only[zQz,Value.cells];rw[if_pos (by rw[hc];rfl),show List.range 2 = [0,1] from rfl,List.mapM_cons,List.mapM_cons,List.mapM_nil];simp[h1,Program.keyLits,hs,ht]
theorem zRE:Tryz.prog.underlying 61=some (.struct #[⟨"Slot",2,0,false, "", "",0⟩,⟨"Birth",2,1,false, "", "",8⟩]):=by kernel_rfl
theorem zQt:Keyed Tryz.prog 61:=Keyed.of_law (deep_law_laid zOf (m:=5) (by decide) (zO2 (by kernel_rfl)) (by kernel_rfl) (by kernel_rfl))
theorem zQB{x y:Int}(hx:(Lit.int .i64 x).wf=true)(hy:(Lit.int .i64 y).wf=true):∃l,keyOf Tryz.prog 61 (.agg #[.int .i64 x,.int .i64 y])=some l:=by
 obtain⟨m,hm⟩:∃m,Tryz.prog.types.size+1=m+2:=⟨Tryz.prog.types.size - 1,by have:=zQX;omega⟩;have hk:Tryz.prog.keyType 61=true:=by kernel_rfl
 have hc:Tryz.prog.cellsOf 61=2:=by kernel_rfl
 have h1:Tryz.prog.cellsOf 2=1:=by kernel_rfl
 unfold keyOf;simp only[zRE];rw[if_pos (by simp[hk,Value.formed,hc]),hm];unfold Program.keyLits;simp only[zRE,Value.cells];rw[if_pos ⟨by rw[hc];rfl,by kernel_rfl⟩];simp[h1,Program.keyLits,hx,hy]
def zDF(vd:Value)(s:qC):Value:=.agg #[.string s.name,.int .i64 s.origin,.int .i64 s.zRT,.int .i64 s.rs,.int .i64 s.rb,vd]
def yf(vd:Value)(s:zm):Value:=.agg #[.int .i64 s.id,.string s.name,.string s.set,.int .i64 s.zRT,.int .i64 s.time,.int .i64 s.rs,.int .i64 s.rb,vd]
def zLR(w:World)(lo hi n:Nat)(f:Nat->qC)(vd:Nat->Value):Prop:=∀i,i<n->zR w lo hi (vd i) (f i).dn (f i).ds (f i).db
def zEW(w:World)(lo hi n:Nat)(f:Nat->zm)(vd:Nat->Value):Prop:=∀i,i<n->zR w lo hi (vd i) (f i).dn (f i).ds (f i).db
open Classical in
theorem yW.vals{w:World}{lo hi:Nat}{a:Option Addr}{n c:Nat}{f:Nat->qC}(h:yW w lo hi (.slice a n c) n f):∃vd:Nat->Value,zLR w lo hi n f vd/\∀i,i<n->∃b off,a=some ⟨b,off,none⟩/\zBO w b (off+i*6) lo hi (vd i) (f i):=by
 have hx:∀i,∃v,i<n->∃b off,a=some ⟨b,off,none⟩/\zBO w b (off+i*6) lo hi v (f i):=fun i=>by
  by_cases hi':i<n
  ·obtain⟨b,off,vd,ha,hs⟩:=h.cells hi';exact⟨vd,fun _=>⟨b,off,ha,hs⟩⟩
  ·exact⟨undef,fun h=>absurd h hi'⟩
 refine⟨fun i=>(hx i).choose,fun i hi'=>?_,fun i hi'=>(hx i).choose_spec hi'⟩;obtain⟨b,off,_,hs⟩:=(hx i).choose_spec hi';exact hs.zRX
open Classical in
theorem yA.vals{w:World}{lo hi:Nat}{a:Option Addr}{n c:Nat}{f:Nat->zm}(h:yA w lo hi (.slice a n c) n f):∃vd:Nat->Value,zEW w lo hi n f vd/\∀i,i<n->∃b off,a=some ⟨b,off,none⟩/\zAs w b (off+i*8) lo hi (vd i) (f i):=by
 have hx:∀i,∃v,i<n->∃b off,a=some ⟨b,off,none⟩/\zAs w b (off+i*8) lo hi v (f i):=fun i=>by
  by_cases hi':i<n
  ·obtain⟨b,off,vd,ha,hs⟩:=h.cells hi';exact⟨vd,fun _=>⟨b,off,ha,hs⟩⟩
  ·exact⟨undef,fun h=>absurd h hi'⟩
 refine⟨fun i=>(hx i).choose,fun i hi'=>?_,fun i hi'=>(hx i).choose_spec hi'⟩;obtain⟨b,off,_,hs⟩:=(hx i).choose_spec hi';exact hs.zRX
theorem zLD:Tryz.prog.underlying 177=some (.map 9 67):=by kernel_rfl
theorem zPw:Tryz.prog.underlying 218=some (.map 2 99):=by kernel_rfl
theorem zOs:Tryz.prog.underlying 265=some (.map 266 2):=by kernel_rfl
def zBp(w:World)(W:zH)(M n:Nat)(vd:Nat->Value):Prop:=w.ownsMap Tryz.prog 9 zCE M n (putD (fun i=>zCr (W.zRS i).name) (fun i=>zDF (vd i) (W.zRS i)) n)
def zCo(w:World)(W:zH)(M n:Nat)(vd:Nat->Value):Prop:=w.ownsMap Tryz.prog 2 zCE M n (putD (fun i=>zJz (W.zRP i).id) (fun i=>yf (vd i) (W.zRP i)) n)
theorem zBp.zRJ{w w':World}{W:zH}{M n:Nat}{vd:Nat->Value}(h:zBp w W M n vd)(t:Below w.heap.size w w'):zBp w' W M n vd:=h.kept (yu t none) (by simp)
theorem zCo.zRJ{w w':World}{W:zH}{M n:Nat}{vd:Nat->Value}(h:zCo w W M n vd)(t:Below w.heap.size w w'):zCo w' W M n vd:=h.kept (yu t none) (by simp)
theorem zDy(v0 v1 v2 v3:Value)(lo hi:Nat)(W:zH)(w:World)(h:zl w lo hi v0 v1 v2 v3 W)(hn:W.sn<=8) :
  Calls Tryz.prog 129 #[zz v0 v1 v2 v3 W] w fun e w'=>∃vd,e = .returned (.map (some (w.heap.size+1)))/\zBp w' W (w.heap.size+1) W.sn vd/\zLR w lo hi W.sn W.zRS vd/\Below w.heap.size w w':=by
 have Hp:=zB h;obtain⟨m1,a,c,rfl,mc,-⟩:=id h.zRS;unfold maxLen at m1;obtain⟨vd,pA,rA⟩:=h.zRS.vals;have aB:=zB pA;have tA:=zB rA;clear h pA rA;have ha:=zC w (.cells #[v0,v1,.int .i64 W.time,.int .i64 W.next,.slice a W.sn c,v3] 37);have HB:=zB (zi.zRL w v0 v1 (.int .i64 W.time) (.int .i64 W.next) (.slice a W.sn c) v3 37);have iA:(w.alloc (.cells #[v0,v1,.int .i64 W.time,.int .i64 W.next,.slice a W.sn c,v3] 37)).heap.size=w.heap.size+1:=World.size_alloc _ _;have hm:=World.ownsMap_made (w.alloc (.cells #[v0,v1,.int .i64 W.time,.int .i64 W.next,.slice a W.sn c,v3] 37)) Tryz.prog 9 zCE;rw[iA]at hm;have HM:=zB hm;have oA:=zB (HB.out.zRJ (zC _ (.map #[] 0)));have nA:=zB (zA ha (zC _ (.map #[] 0)));have iB:=@run_makeMap Tryz.prog;obtain⟨⟨x0,-⟩,⟨x2,-⟩,⟨x4,-⟩,⟨x6,-⟩,⟨x8,-⟩,⟨bB,-⟩⟩:=oA.out;clear hm;go_enter Tryz.func129,Tryz.ntmps129;go_wp2;clear x0 x2 x4 x6 x8 bB ha
 go_loopw [10] (fun i wr=>∃k:Nat,k<=W.sn/\i = .int .i64 k/\zBp wr W (w.heap.size+1) k vd/\Below w.heap.size w wr/\w.heap.size+2<=wr.heap.size) (fun i _=>W.sn - (intOf i).toNat)
 case atStart=>exact⟨0,Nat.zero_le _,rfl,HM.out,nA.out,by rw[World.size_alloc,iA];omega⟩
 case round=>
  clear HM oA nA HB iA;obtain⟨k,hk,rfl,eA,hb,hz⟩:=hrel;have cA:=zB eA;clear eA;by_cases vA:k<W.sn
  ·have dB:(k:Int)<(W.sn:Int):=(by omega);obtain⟨b,off,rfl,lA⟩:=tA.out k vA;have bA:=lA.zRJ hb;obtain⟨-,ad,cd,jA,-,-⟩:=id bA.zRX;have cB:=zB jA;rw[jA]at bA;clear jA lA;have gA:=zC wr (.cells #[.string (W.zRS k).name,.int .i64 (W.zRS k).origin,.int .i64 (W.zRS k).zRT,.int .i64 (W.zRS k).rs,.int .i64 (W.zRS k).rb,.slice ad (W.zRS k).dn cd] 67);have sA:=zB (zi.zRL wr (.string (W.zRS k).name) (.int .i64 (W.zRS k).origin) (.int .i64 (W.zRS k).zRT) (.int .i64 (W.zRS k).rs) (.int .i64 (W.zRS k).rb) (.slice ad (W.zRS k).dn cd) 67);have mA:=zA hb gA;have q0:=bA.c0;have q1:=bA.c1;have q2:=bA.c2;have q3:=bA.c3;have q4:=bA.c4;have q5:=bA.c5;have kA:=zB (zKd bA.zRZ);obtain⟨⟨y0,y1⟩,⟨y2,y3⟩,⟨y4,y5⟩,⟨y6,y7⟩,⟨y8,y9⟩,⟨fB,eB⟩⟩:=sA.out;have fA:=zB (cA.out.zRJ gA);have gB:=gA.size;clear bA gA;go_wp2_with (first
    | (at_mapUpdate;refine wpList_mapUpdate_own _ rfl _ _ _ 177 rfl 9 67 zOr zLD zCE (w.heap.size+1) k _ rfl fA.out (by unfold maxLen;omega) _ _ _ rfl rfl kA.out _ [] (zBu _) ?_;intro w1 dA aA)
    | go_in)
   go_roundw
   case rel=>
    refine⟨k+1,by omega,by go_num,?_,mA.grown aA mA.size (fun j hj=>by cases hj;omega),by have:=aA.size;omega⟩;unfold zBp putD zDF;rw[cB.out];exact dA
   case measure=>simp[intOf];omega
  ·obtain rfl:k=W.sn:=(by omega);go_wp2;go_ret;exact⟨vd,rfl,cA.out,aB.out,hb⟩
def zNd(n:Nat)(f:Nat->zm):Prop:=∀i,i<n->(Lit.int .i64 (f i).id).wf=true
theorem zI8(v0 v1 v2 v3:Value)(lo hi:Nat)(W:zH)(w:World)(h:zl w lo hi v0 v1 v2 v3 W)(hn:W.pn<=20)(sA:zNd W.pn W.zRP) :
  Calls Tryz.prog 179 #[zz v0 v1 v2 v3 W] w fun e w'=>∃vd,e = .returned (.map (some (w.heap.size+1)))/\zCo w' W (w.heap.size+1) W.pn vd/\zEW w lo hi W.pn W.zRP vd/\Below w.heap.size w w':=by
 have Hp:=zB h;have aB:=zB sA;obtain⟨m1,a,c,rfl,mc,-⟩:=id h.zRP;unfold maxLen at m1;obtain⟨vd,rA,tA⟩:=h.zRP.vals;have cB:=zB rA;have bB:=zB tA;clear h rA tA sA;have ha:=zC w (.cells #[v0,v1,.int .i64 W.time,.int .i64 W.next,v2,.slice a W.pn c] 37);have HB:=zB (zi.zRL w v0 v1 (.int .i64 W.time) (.int .i64 W.next) v2 (.slice a W.pn c) 37);have iA:(w.alloc (.cells #[v0,v1,.int .i64 W.time,.int .i64 W.next,v2,.slice a W.pn c] 37)).heap.size=w.heap.size+1:=World.size_alloc _ _;have hm:=World.ownsMap_made (w.alloc (.cells #[v0,v1,.int .i64 W.time,.int .i64 W.next,v2,.slice a W.pn c] 37)) Tryz.prog 2 zCE;rw[iA]at hm;have HM:=zB hm;have pA:=zB (HB.out.zRJ (zC _ (.map #[] 0)));have oA:=zB (zA ha (zC _ (.map #[] 0)));have iB:=@run_makeMap Tryz.prog;obtain⟨⟨x0,-⟩,⟨x2,-⟩,⟨x4,-⟩,⟨x6,-⟩,⟨x8,-⟩,⟨dB,-⟩⟩:=pA.out;clear hm;go_enter Tryz.func179,Tryz.ntmps179;go_wp2;clear x0 x2 x4 x6 x8 dB ha
 go_loopw [10] (fun i wr=>∃k:Nat,k<=W.pn/\i = .int .i64 k/\zCo wr W (w.heap.size+1) k vd/\Below w.heap.size w wr/\w.heap.size+2<=wr.heap.size) (fun i _=>W.pn - (intOf i).toNat)
 case atStart=>exact⟨0,Nat.zero_le _,rfl,HM.out,oA.out,by rw[World.size_alloc,iA];omega⟩
 case round=>
  clear HM pA oA HB iA;obtain⟨k,hk,rfl,eA,hb,hz⟩:=hrel;have cA:=zB eA;clear eA;by_cases mA:k<W.pn
  ·have fB:(k:Int)<(W.pn:Int):=(by omega);obtain⟨b,off,rfl,lA⟩:=bB.out k mA;have bA:=lA.zRJ hb;obtain⟨-,ad,cd,jA,-,-⟩:=id bA.zRX;have eB:=zB jA;rw[jA]at bA;clear jA lA;have gA:=zC wr (.cells #[.int .i64 (W.zRP k).id,.string (W.zRP k).name,.string (W.zRP k).set,.int .i64 (W.zRP k).zRT,.int .i64 (W.zRP k).time,.int .i64 (W.zRP k).rs,.int .i64 (W.zRP k).rb,.slice ad (W.zRP k).dn cd] 99);have vA:=zB (zCH.zRL wr (.int .i64 (W.zRP k).id) (.string (W.zRP k).name) (.string (W.zRP k).set) (.int .i64 (W.zRP k).zRT) (.int .i64 (W.zRP k).time) (.int .i64 (W.zRP k).rs) (.int .i64 (W.zRP k).rb) (.slice ad (W.zRP k).dn cd) 99);have nA:=zA hb gA;have q0:=bA.c0;have q1:=bA.c1;have q2:=bA.c2;have q3:=bA.c3;have q4:=bA.c4;have q5:=bA.c5;have q6:=bA.c6;have q7:=bA.c7;have kA:=zB (zNO (aB.out k mA));obtain⟨⟨⟨y0,-⟩,⟨y1,-⟩,⟨y2,-⟩,⟨y3,-⟩⟩,⟨y4,-⟩,⟨y5,-⟩,⟨y6,-⟩,⟨y7,-⟩⟩:=vA.out;have fA:=zB (cA.out.zRJ gA);have gB:=gA.size;clear bA gA;go_wp2_with (first
    | (at_mapUpdate;refine wpList_mapUpdate_own _ rfl _ _ _ 218 rfl 2 99 zQ8 zPw zCE (w.heap.size+1) k _ rfl fA.out (by unfold maxLen;omega) _ _ _ rfl rfl kA.out _ [] (zBu _) ?_;intro w1 dA aA)
    | go_in)
   go_roundw
   case rel=>
    refine⟨k+1,by omega,by go_num,?_,nA.grown aA nA.size (fun j hj=>by cases hj;omega),by have:=aA.size;omega⟩;unfold zCo putD yf;rw[eB.out];exact dA
   case measure=>simp[intOf];omega
  ·obtain rfl:k=W.pn:=(by omega);go_wp2;go_ret;exact⟨vd,rfl,cA.out,cB.out,hb⟩
def zCn(n:Nat)(f:Nat->zm):Prop:=∀i,i<n->∀k,k<i->¬((f k).set=(f i).set/\(f k).name=(f i).name)
theorem zCn.iff{n:Nat}{f:Nat->zm}{key:Nat->Lit}(hk:∀i,i<n->keyOf Tryz.prog 266 (.agg #[.string (f i).set,.string (f i).name])=some (key i)):zFu n key↔zCn n f:=by
 constructor
 ·intro h i hi k aA e;refine h i hi k aA ?_;have h1:=hk i hi;have h2:=hk k (by omega);rw[e.1,e.2,h1]at h2;exact(Option.some.inj h2).symm
 ·intro h i hi k aA e;have h1:=hk i hi;have h2:=hk k (by omega);rw[e]at h2;have:=zQi.inj h2 h1;simp only[Value.agg.injEq,Array.mk.injEq,List.cons.injEq,Value.string.injEq,and_true]at this;exact h i hi k aA this
theorem zH4(v:Value)(n lo hi:Nat)(f:Nat->zm)(w:World)(h:yA w lo hi v n f)(hn:n<=20) :
  Calls Tryz.prog 223 #[v] w fun e w'=>zG (zCn n f) e/\Below w.heap.size w w':=by
 have Hp:=zB h;obtain⟨m1,a,c,rfl,mc,-⟩:=id h;unfold maxLen at m1;have iA:∀i,∃l,WideAt.IsKeyLit l/\(i<n->keyOf Tryz.prog 266 (.agg #[.string (f i).set,.string (f i).name])=some l):=fun i=>by
  by_cases hi':i<n
  ·obtain⟨b,off,vd,_,hs⟩:=h.cells hi';obtain⟨l,hl⟩:=zP2 hs.zRZ.2 hs.zRZ.1;exact⟨l,zQi.key hl,fun _=>hl⟩
  ·exact⟨.string [],trivial,fun h=>absurd h hi'⟩
 obtain⟨key,mA,kA⟩:∃key:Nat->Lit,zDa key/\∀i,i<n->keyOf Tryz.prog 266 (.agg #[.string (f i).set,.string (f i).name])=some (key i):=⟨fun i=>(iA i).choose,fun i=>(iA i).choose_spec.1,fun i=>(iA i).choose_spec.2⟩;have sA:=zB mA;have oA:=zB kA;clear h iA mA kA;have HM:=zB (World.ownsMap_made w Tryz.prog 266 zCE);have aB:=@run_makeMap Tryz.prog;go_enter Tryz.func223,Tryz.ntmps223;go_wp2
 go_loopw [9] (fun i wr=>∃k:Nat,k<=n/\i = .int .i64 k/\wr.ownsMap Tryz.prog 266 zCE w.heap.size k (putD key (fun i=>.int .i64 (f i).id) k)/\Below w.heap.size w wr/\w.heap.size+1<=wr.heap.size) (fun i _=>n - (intOf i).toNat)
 case atStart=>exact⟨0,Nat.zero_le _,rfl,HM.out,zC _ _,by rw[World.size_alloc];omega⟩
 case round=>
  clear HM;obtain⟨k,hk,rfl,eA,hb,hz⟩:=hrel;have cA:=zB eA;clear eA;by_cases lA:k<n
  ·have tA:(k:Int)<(n:Int):=(by omega);obtain⟨b,off,vd,rfl,bA⟩:=(Hp.out.zRJ hb).cells lA;obtain⟨-,ad,cd,rfl,-,-⟩:=id bA.zRX;have gA:=zC wr (.cells #[.int .i64 (f k).id,.string (f k).name,.string (f k).set,.int .i64 (f k).zRT,.int .i64 (f k).time,.int .i64 (f k).rs,.int .i64 (f k).rb,.slice ad (f k).dn cd] 99);have pA:=zB (zCH.zRL wr (.int .i64 (f k).id) (.string (f k).name) (.string (f k).set) (.int .i64 (f k).zRT) (.int .i64 (f k).time) (.int .i64 (f k).rs) (.int .i64 (f k).rb) (.slice ad (f k).dn cd) 99);have nA:=zA hb gA;have q0:=bA.c0;have q1:=bA.c1;have q2:=bA.c2;have q3:=bA.c3;have q4:=bA.c4;have q5:=bA.c5;have q6:=bA.c6;have q7:=bA.c7;have jA:=zB (oA.out k lA);obtain⟨⟨⟨y0,-⟩,⟨y1,-⟩,⟨y2,-⟩,⟨y3,-⟩⟩,⟨y4,-⟩,⟨y5,-⟩,⟨y6,-⟩,⟨y7,-⟩⟩:=pA.out;have fA:=zB (cA.out.kept (yu gA none) (by simp));have vA:=gA.size;clear bA gA;go_wp2_with (first
    | (at_mapUpdate;refine wpList_mapUpdate_own _ rfl _ _ _ 265 rfl 266 2 zQi zOs zCE w.heap.size k _ rfl fA.out (by unfold maxLen;omega) _ _ _ rfl rfl jA.out _ [] (zBu _) ?_;intro w1 dA aA)
    | go_in)
   go_roundw
   case rel=>exact⟨k+1,by omega,by go_num,dA,nA.grown aA nA.size (fun j hj=>by cases hj;omega),by have:=aA.size;omega⟩
   case measure=>simp[intOf];omega
  ·obtain rfl:k=n:=(by omega);have rA:=zB (zGJ sA.out (fun i=>.int .i64 (f i).id) k);have HN:=zB (zCn.iff (f:=f) oA.out);go_wp2_with (first
    | (at_len;refine wpList_len_own _ rfl _ 265 rfl 266 2 zOs zCE w.heap.size k _ rfl cA.out ?_)
    | go_in)
   go_ret;refine⟨⟨_,rfl,?_⟩,hb⟩;have h1:=rA.out.2;have h2:=HN.out;simp only[beq_iff_eq,Int.natCast_inj];exact h1.trans h2
def zEC(f:Nat->zm):Nat->zm
 | 0=>yO
 | k+1=>f k
def zHp(W:zH)(i:Nat):Prop:=zAP W (W.zRP i).set/\yM (W.zRP i).name/\(W.zRP i).zRT<(W.zRP i).id/\Mid (zEC W.zRP i).id (W.zRP i).id W.next/\Mid (zEC W.zRP i).time (W.zRP i).time W.time
def zPI(W:zH):Prop:=W.pn<=20/\(∀i,i<W.pn->zHp W i)/\zCn W.pn W.zRP
theorem zFd(w:World):(zeroValue 67).run Tryz.prog w = .ok (.agg #[.string ⟨#[]⟩,.int .i64 0,.int .i64 0,.int .i64 0,.int .i64 0,.slice none 0 0]) w:=by kernel_rfl
theorem zJP{W:zH}{vd:Nat->Value}(hd:∀i,i<W.sn->∃a n c,vd i = .slice a n c)(x:ByteArray):∃(s0:ByteArray) (i1 i2 i3 i4:Int) (a:Option Addr) (n c:Nat),(putD (fun i=>zCr (W.zRS i).name) (fun i=>zDF (vd i) (W.zRS i)) W.sn).atKey (zCr x) (.held (.agg #[.string ⟨#[]⟩,.int .i64 0,.int .i64 0,.int .i64 0,.int .i64 0,.slice none 0 0])) = .held (.agg #[.string s0,.int .i64 i1,.int .i64 i2,.int .i64 i3,.int .i64 i4,.slice a n c]):=by
 have hk:zDa (fun i=>zCr (W.zRS i).name):=fun i=>zLX _
 have:∀k,k<=W.sn->∃(s0:ByteArray) (i1 i2 i3 i4:Int) (a:Option Addr) (n c:Nat),(putD (fun i=>zCr (W.zRS i).name) (fun i=>zDF (vd i) (W.zRS i)) k).atKey (zCr x) (.held (.agg #[.string ⟨#[]⟩,.int .i64 0,.int .i64 0,.int .i64 0,.int .i64 0,.slice none 0 0])) = .held (.agg #[.string s0,.int .i64 i1,.int .i64 i2,.int .i64 i3,.int .i64 i4,.slice a n c]):=by
  intro k
  induction k with
  | zero=>exact fun _=>⟨⟨#[]⟩,0,0,0,0,none,0,0,zGU hk _ (fun i hi=>absurd hi (Nat.not_lt_zero _)) _⟩
  | succ k ih=>
   intro aA;by_cases e:zCr (W.zRS k).name=zCr x
   ·obtain⟨a,n,c,hv⟩:=hd k (by omega);refine⟨(W.zRS k).name,(W.zRS k).origin,(W.zRS k).zRT,(W.zRS k).rs,(W.zRS k).rb,a,n,c,?_⟩;rw[<-e];refine(atKey_put_same (zCO hk _ k).isMap (hk k) _ _).trans ?_;show DataW.held (zDF (vd k) (W.zRS k))=_;rw[hv];rfl
   ·obtain⟨s0,i1,i2,i3,i4,a,n,c,h⟩:=ih (by omega);exact⟨s0,i1,i2,i3,i4,a,n,c,(atKey_put_other (Ne.symm e) _ _).trans h⟩
 exact this W.sn (Nat.le_refl _)
theorem zLV{W:zH}{vd:Nat->Value}(x:ByteArray):Maps.has (putD (fun i=>zCr (W.zRS i).name) (fun i=>zDF (vd i) (W.zRS i)) W.sn) (zCr x)=true↔zAP W x:=by
 rw[zEK (fun i=>zLX _)];constructor
 ·rintro⟨i,hi,e⟩;exact⟨i,hi,zO4 e⟩
 ·rintro⟨i,hi,e⟩;exact⟨i,hi,by rw[e]⟩
abbrev put8(w:World)(b:Nat)(u0 u1 u2 u3 u4 u5 u6 u7:Value):World:=(((((((w.setCell ⟨b,0,none⟩ u0).setCell ⟨b,1,none⟩ u1).setCell ⟨b,2,none⟩ u2).setCell ⟨b,3,none⟩ u3).setCell ⟨b,4,none⟩ u4).setCell ⟨b,5,none⟩ u5).setCell ⟨b,6,none⟩ u6).setCell ⟨b,7,none⟩ u7
theorem zCH.put{w:World}{b:Nat}{v0 v1 v2 v3 v4 v5 v6 v7:Value}(h:zCH w b v0 v1 v2 v3 v4 v5 v6 v7)(u0 u1 u2 u3 u4 u5 u6 u7:Value):zCH (put8 w b u0 u1 u2 u3 u4 u5 u6 u7) b u0 u1 u2 u3 u4 u5 u6 u7:=by
 obtain⟨⟨h0,h1,h2,h3⟩,h4,h5,h6,h7⟩:=h;refine⟨⟨?_,?_,?_,?_⟩,?_,?_,?_,?_⟩
 ·exact(((((((h0.set _).zRK _ (Or.inr (by omega))).zRK _ (Or.inr (by omega))).zRK _ (Or.inr (by omega))).zRK _ (Or.inr (by omega))).zRK _ (Or.inr (by omega))).zRK _ (Or.inr (by omega))).zRK _ (Or.inr (by omega))
 ·exact(((((((h1.zRK _ (Or.inr (by omega))).set _).zRK _ (Or.inr (by omega))).zRK _ (Or.inr (by omega))).zRK _ (Or.inr (by omega))).zRK _ (Or.inr (by omega))).zRK _ (Or.inr (by omega))).zRK _ (Or.inr (by omega))
 ·exact(((((((h2.zRK _ (Or.inr (by omega))).zRK _ (Or.inr (by omega))).set _).zRK _ (Or.inr (by omega))).zRK _ (Or.inr (by omega))).zRK _ (Or.inr (by omega))).zRK _ (Or.inr (by omega))).zRK _ (Or.inr (by omega))
 ·exact(((((((h3.zRK _ (Or.inr (by omega))).zRK _ (Or.inr (by omega))).zRK _ (Or.inr (by omega))).set _).zRK _ (Or.inr (by omega))).zRK _ (Or.inr (by omega))).zRK _ (Or.inr (by omega))).zRK _ (Or.inr (by omega))
 ·exact(((((((h4.zRK _ (Or.inr (by omega))).zRK _ (Or.inr (by omega))).zRK _ (Or.inr (by omega))).zRK _ (Or.inr (by omega))).set _).zRK _ (Or.inr (by omega))).zRK _ (Or.inr (by omega))).zRK _ (Or.inr (by omega))
 ·exact(((((((h5.zRK _ (Or.inr (by omega))).zRK _ (Or.inr (by omega))).zRK _ (Or.inr (by omega))).zRK _ (Or.inr (by omega))).zRK _ (Or.inr (by omega))).set _).zRK _ (Or.inr (by omega))).zRK _ (Or.inr (by omega))
 ·exact(((((((h6.zRK _ (Or.inr (by omega))).zRK _ (Or.inr (by omega))).zRK _ (Or.inr (by omega))).zRK _ (Or.inr (by omega))).zRK _ (Or.inr (by omega))).zRK _ (Or.inr (by omega))).set _).zRK _ (Or.inr (by omega))
 ·exact(((((((h7.zRK _ (Or.inr (by omega))).zRK _ (Or.inr (by omega))).zRK _ (Or.inr (by omega))).zRK _ (Or.inr (by omega))).zRK _ (Or.inr (by omega))).zRK _ (Or.inr (by omega))).zRK _ (Or.inr (by omega))).set _
theorem zF.put8(w:World)(b:Nat)(u0 u1 u2 u3 u4 u5 u6 u7:Value):zF (fun k=>k=b) w (put8 w b u0 u1 u2 u3 u4 u5 u6 u7):=
 (((((((zF.put w b 0 u0).trans (zF.put _ b 1 u1)).trans (zF.put _ b 2 u2)).trans (zF.put _ b 3 u3)).trans (zF.put _ b 4 u4)).trans (zF.put _ b 5 u5)).trans (zF.put _ b 6 u6)).trans (zF.put _ b 7 u7)
theorem zBp.put8{w:World}{W:zH}{M n b:Nat}{vd:Nat->Value}(h:zBp w W M n vd)(hb:M≠b)(u0 u1 u2 u3 u4 u5 u6 u7:Value):zBp (Go.Proofs.YtmgeglgboadfiaaGreatDoor.put8 w b u0 u1 u2 u3 u4 u5 u6 u7) W M n vd:=
 (((((((World.ownsMap.setCell h hb u0).setCell hb u1).setCell hb u2).setCell hb u3).setCell hb u4).setCell hb u5).setCell hb u6).setCell hb u7
theorem zM9{B:Nat}{w w':World}(h:Below B w w'){b:Nat}(hb:B<=b)(u0 u1 u2 u3 u4 u5 u6 u7:Value):Below B w (put8 w' b u0 u1 u2 u3 u4 u5 u6 u7):=
 (((((((h.setCell hb u0).setCell hb u1).setCell hb u2).setCell hb u3).setCell hb u4).setCell hb u5).setCell hb u6).setCell hb u7
theorem zIP(v0 v1 v2 v3:Value)(lo hi:Nat)(W:zH)(w:World)(h:zl w lo hi v0 v1 v2 v3 W)(hs:W.sn<=8) :
  Calls Tryz.prog 204 #[zz v0 v1 v2 v3 W] w fun e w'=>zG (zPI W) e/\Below w.heap.size w w':=by
 have Hp:=zB h;obtain⟨m1,a,c,rfl,mc,-⟩:=id h.zRP;unfold maxLen at m1;clear h;have ha:=zC w (.cells #[v0,v1,.int .i64 W.time,.int .i64 W.next,v2,.slice a W.pn c] 37);have HB:=zB (zi.zRL w v0 v1 (.int .i64 W.time) (.int .i64 W.next) v2 (.slice a W.pn c) 37);obtain⟨⟨x0,-⟩,⟨x2,-⟩,⟨x4,-⟩,⟨x6,-⟩,⟨x8,-⟩,⟨gA,-⟩⟩:=HB.out;by_cases hn:W.pn<=20;rotate_left
 ·have sB:(20:Int)<(W.pn:Int):=(by omega);go_enter Tryz.func204,Tryz.ntmps204;go_wp2;go_ret;exact⟨zG.no fun h=>hn h.1,ha⟩
 have sB:¬(20:Int)<(W.pn:Int):=by omega
 go_enter Tryz.func204,Tryz.ntmps204;go_wp2_with fail;clear x0 x2 x4 x6 x8 gA;generalize w.alloc (.cells #[v0,v1,.int .i64 W.time,.int .i64 W.next,v2,.slice a W.pn c] 37)=W0 at ha HB ⊢;refine(zDy v0 v1 v2 _ lo hi W W0 (Hp.out.zRJ ha) hs).mono ?_;rintro e w1 ⟨vd,rfl,dA,pB,gB⟩;have kB:∀i,i<W.sn->∃a n c,vd i = .slice a n c:=fun i hi'=>by
  obtain⟨_,aa,cc,hv,_⟩:=pB i hi';exact⟨aa,_,cc,hv⟩
 have oA:=zB (zJP kB);have mA:=zB (zLV (W:=W) (vd:=vd));have pA:=zC w1 (.cells #[.int .i64 0,.string ⟨#[]⟩,.string ⟨#[]⟩,.int .i64 0,.int .i64 0,.int .i64 0,.int .i64 0,.slice none 0 0] 99);have aB:=zB ((HB.out.zRJ gB).zRJ pA);have tA:=zB (zCH.zRL w1 (.int .i64 0) (.string ⟨#[]⟩) (.string ⟨#[]⟩) (.int .i64 0) (.int .i64 0) (.int .i64 0) (.int .i64 0) (.slice none 0 0) 99);have vA:=zB (dA.zRJ pA);have nB:=zB (zA (zA ha gB) pA);have lB:W0.heap.size+1<w1.heap.size:=dA.lt;have rB:=zB (show w.heap.size<W0.heap.size+1 by have:=HB.out.1.lt;omega);clear dA pB kB gB pA ha HB;obtain⟨⟨x0,-⟩,⟨x2,-⟩,⟨x4,-⟩,⟨x6,-⟩,⟨x8,-⟩,⟨gA,-⟩⟩:=aB.out;go_wp2;clear x0 x2 x4 x6 x8 gA;obtain⟨L,hL⟩:∃L,L=w1.heap.size:=⟨_,rfl⟩;rw[<-hL]at tA lB ⊢;obtain⟨M,hM⟩:∃M,M=W0.heap.size+1:=⟨_,rfl⟩;rw[<-hM]at vA lB rB ⊢;have dC:w.heap.size<L:=by have:=rB.out;omega
 go_loopw [18] (fun i wr=>∃(k:Nat) (al:Option Addr) (nl cl:Nat),k<=W.pn/\i = .int .i64 k/\(∀j,j<k->zHp W j)/\zCH wr L (.int .i64 (zEC W.zRP k).id) (.string (zEC W.zRP k).name) (.string (zEC W.zRP k).set) (.int .i64 (zEC W.zRP k).zRT) (.int .i64 (zEC W.zRP k).time) (.int .i64 (zEC W.zRP k).rs) (.int .i64 (zEC W.zRP k).rb) (.slice al nl cl)/\zi wr w.heap.size v0 v1 (.int .i64 W.time) (.int .i64 W.next) v2 (.slice a W.pn c)/\zBp wr W M W.sn vd/\Below w.heap.size w wr) (fun i _=>W.pn - (intOf i).toNat)
 case atStart=>exact⟨0,none,0,0,Nat.zero_le _,rfl,fun j hj=>absurd hj (Nat.not_lt_zero _),tA.out,aB.out,vA.out,nB.out⟩
 case round=>
  clear tA aB vA nB hL hM;obtain⟨k,al,nl,cl,hk,rfl,nA,hV,hX,hM,hb⟩:=hrel;have lA:=zB nA;have HV:=zB hV;have HX:=zB hX;have HM:=zB hM;clear nA hV hX hM;obtain⟨⟨x0,-⟩,⟨x2,-⟩,⟨x4,-⟩,⟨x6,-⟩,⟨x8,-⟩,⟨gA,-⟩⟩:=HX.out;by_cases eA:k<W.pn
  ·have cC:(k:Int)<(W.pn:Int):=(by omega);obtain⟨b,off,eC,rfl,cA⟩:=(Hp.out.zRP.zRJ hb).cells eA;obtain⟨-,ad,cd,rfl,-,-⟩:=id cA.zRX;obtain⟨s0,i1,i2,i3,i4,sa,sn,sc,jB⟩:=oA.out (W.zRP k).set;have sA:=zB jB;have iA:=zB (zKd cA.zRZ.2);have tB:=cA.zRZ.1;clear jB;have vB:wr.heap.size≠L:=(by have:=HV.out.1.1.lt;omega);have jA:=zC wr (.cells #[.int .i64 (W.zRP k).id,.string (W.zRP k).name,.string (W.zRP k).set,.int .i64 (W.zRP k).zRT,.int .i64 (W.zRP k).time,.int .i64 (W.zRP k).rs,.int .i64 (W.zRP k).rb,.slice ad (W.zRP k).dn cd] 99);have kA:=zC (wr.alloc (.cells #[.int .i64 (W.zRP k).id,.string (W.zRP k).name,.string (W.zRP k).set,.int .i64 (W.zRP k).zRT,.int .i64 (W.zRP k).time,.int .i64 (W.zRP k).rs,.int .i64 (W.zRP k).rb,.slice ad (W.zRP k).dn cd] 99)) (.cells #[.string s0,.int .i64 i1,.int .i64 i2,.int .i64 i3,.int .i64 i4,.slice sa sn sc] 67);have bB:=zB (zCH.zRL wr (.int .i64 (W.zRP k).id) (.string (W.zRP k).name) (.string (W.zRP k).set) (.int .i64 (W.zRP k).zRT) (.int .i64 (W.zRP k).time) (.int .i64 (W.zRP k).rs) (.int .i64 (W.zRP k).rb) (.slice ad (W.zRP k).dn cd) 99);have iB:=zB (HM.out.zRJ jA);have rA:=zB (bB.out.zRJ kA);have eB:=zB ((HV.out.zRJ jA).zRJ kA);have fB:=zB ((HX.out.zRJ jA).zRJ kA);have oB:=zB ((HM.out.zRJ jA).zRJ kA);have fA:=zA (zA hb jA) kA;have cB:((wr.alloc (.cells #[.int .i64 (W.zRP k).id,.string (W.zRP k).name,.string (W.zRP k).set,.int .i64 (W.zRP k).zRT,.int .i64 (W.zRP k).time,.int .i64 (W.zRP k).rs,.int .i64 (W.zRP k).rb,.slice ad (W.zRP k).dn cd] 99)).alloc (.cells #[.string s0,.int .i64 i1,.int .i64 i2,.int .i64 i3,.int .i64 i4,.slice sa sn sc] 67)).heap.size=wr.heap.size+2:=(by rw[World.size_alloc,World.size_alloc]);have q0:=cA.c0;have q1:=cA.c1;have q2:=cA.c2;have q3:=cA.c3;have q4:=cA.c4;have q5:=cA.c5;have q6:=cA.c6;have q7:=cA.c7;obtain⟨⟨⟨y0,-⟩,⟨y1,-⟩,⟨y2,-⟩,⟨y3,-⟩⟩,⟨y4,-⟩,⟨y5,-⟩,⟨y6,-⟩,⟨y7,-⟩⟩:=bB.out;obtain⟨⟨⟨z0,-⟩,⟨z1,-⟩,⟨z2,-⟩,⟨z3,-⟩⟩,⟨z4,-⟩,⟨z5,-⟩,⟨z6,-⟩,⟨z7,-⟩⟩:=rA.out;clear cA;by_cases bA:zAP W (W.zRP k).set;rotate_left
   ·have Hc:=zB (show Maps.has (putD (fun i=>zCr (W.zRS i).name) (fun i=>zDF (vd i) (W.zRS i)) W.sn) (zCr (W.zRP k).set)=false by rw[Bool.eq_false_iff];exact fun h=>bA ((mA.out _).1 h));have Hn:=zB (show ¬zHp W k from fun h=>bA h.1);clear bA;go_wp2_with (first
     | (at_lookup;refine yz _ rfl _ _ 177 rfl 9 67 zOr zLD (zFd _) M W.sn _ rfl iB.out _ _ rfl iA.out _ sA.out false Hc.out ?_)
     | go_in)
    go_ret;exact⟨zG.no fun h=>Hn.out (h.2.1 k eA),fA⟩
   have dB:=zB bA;have Hc:=zB ((mA.out _).2 bA);clear bA;go_wp2_with (first
    | (at_lookup;refine yz _ rfl _ _ 177 rfl 9 67 zOr zLD (zFd _) M W.sn _ rfl iB.out _ _ rfl iA.out _ sA.out true Hc.out ?_)
    | fail)
   clear x0 x2 x4 x6 x8 gA y0 y1 y2 y3 y4 y5 y6 y7 z0 z1 z2 z3 z4 z5 z6 z7 q0 q1 q2 q3 q4 q5 q6 q7 bB iB HV HX HM hb jA kA iA sA Hc;generalize (wr.alloc (.cells #[.int .i64 (W.zRP k).id,.string (W.zRP k).name,.string (W.zRP k).set,.int .i64 (W.zRP k).zRT,.int .i64 (W.zRP k).time,.int .i64 (W.zRP k).rs,.int .i64 (W.zRP k).rb,.slice ad (W.zRP k).dn cd] 99)).alloc (.cells #[.string s0,.int .i64 i1,.int .i64 i2,.int .i64 i3,.int .i64 i4,.slice sa sn sc] 67)=W2 at rA eB fB oB fA cB ⊢;generalize wr.heap.size=V8 at rA vB ⊢;obtain⟨⟨x0,-⟩,⟨x2,-⟩,⟨x4,-⟩,⟨x6,-⟩,⟨x8,-⟩,⟨gA,-⟩⟩:=fB.out;obtain⟨⟨⟨z0,-⟩,⟨z1,-⟩,⟨z2,-⟩,⟨z3,-⟩⟩,⟨z4,-⟩,⟨z5,-⟩,⟨z6,-⟩,⟨z7,-⟩⟩:=rA.out;obtain⟨⟨⟨l0,m0⟩,⟨l1,n1⟩,⟨l2,n2⟩,⟨l3,n3⟩⟩,⟨l4,n4⟩,⟨l5,n5⟩,⟨l6,n6⟩,⟨l7,n7⟩⟩:=eB.out;refine(zDX (W.zRP k).name _ tB).mono ?_;rintro e wn ⟨⟨tn,rfl,aA⟩,rfl⟩;by_cases hA:yM (W.zRP k).name;rotate_left
   ·have Hn:=zB (show ¬zHp W k from fun h=>hA h.2.1);obtain rfl:tn=false:=zQ aA hA;clear aA hA;go_wp2;go_ret;exact⟨zG.no fun h=>Hn.out (h.2.1 k eA),fA⟩
   have HA:=zB hA;obtain rfl:tn=true:=aA.2 hA;clear aA hA;by_cases hg:(W.zRP k).id<=(W.zRP k).zRT
   ·have Hn:=zB (show ¬zHp W k from fun h=>by have:=h.2.2.1;omega);go_wp2;go_ret;exact⟨zG.no fun h=>Hn.out (h.2.1 k eA),fA⟩
   have Hg:=zB (show(W.zRP k).zRT<(W.zRP k).id by omega);go_wp2_with fail;clear hg;refine(zG4 _ _ _ _).mono ?_;rintro e wn ⟨⟨tn,rfl,aA⟩,rfl⟩;by_cases hB:Mid (zEC W.zRP k).id (W.zRP k).id W.next;rotate_left
   ·have Hn:=zB (show ¬zHp W k from fun h=>hB h.2.2.2.1);obtain rfl:tn=false:=zQ aA hB;clear aA hB;go_wp2;go_ret;exact⟨zG.no fun h=>Hn.out (h.2.1 k eA),fA⟩
   have HB:=zB hB;obtain rfl:tn=true:=aA.2 hB;clear aA hB;go_wp2_with fail;refine(zG4 _ _ _ _).mono ?_;rintro e wn ⟨⟨tn,rfl,aA⟩,rfl⟩;by_cases hB:Mid (zEC W.zRP k).time (W.zRP k).time W.time;rotate_left
   ·have Hn:=zB (show ¬zHp W k from fun h=>hB h.2.2.2.2);obtain rfl:tn=false:=zQ aA hB;clear aA hB;go_wp2;go_ret;exact⟨zG.no fun h=>Hn.out (h.2.1 k eA),fA⟩
   have bC:=zB hB;obtain rfl:tn=true:=aA.2 hB;clear aA hB;go_wp2;go_roundw
   case rel=>exact⟨k+1,_,_,_,by omega,by go_num,zo eA lA.out ⟨dB.out,HA.out,Hg.out,HB.out,bC.out⟩,eB.out.put _ _ _ _ _ _ _ _,fB.out.zRR (zF.put8 _ L _ _ _ _ _ _ _ _) (by omega),oB.out.put8 (by omega) _ _ _ _ _ _ _ _,zM9 fA (by omega) _ _ _ _ _ _ _ _⟩
   case measure=>simp[intOf];omega
  ·obtain rfl:k=W.pn:=(by omega);go_wp2_with fail;clear x0 x2 x4 x6 x8 gA;refine(zH4 _ W.pn lo hi W.zRP _ (Hp.out.zRP.zRJ hb) hn).mono ?_;rintro e w6 ⟨⟨t6,rfl,mB⟩,aC⟩;have Ht:=zB mB;clear mB;go_wp2;go_ret;exact⟨⟨t6,rfl,Ht.out.trans ⟨fun hA=>⟨hn,lA.out,hA⟩,fun hA=>hA.2.2⟩⟩,zA hb aC⟩
def zCK(W:zH):Prop:=∀i,i<W.pn->∀j,j<i->(W.zRP j).id≠(W.zRP i).id
def zBQ(w:World)(lo hi:Nat)(W:zH)(A:Nat):Prop:=∃M vd,zX w A 0 (.map (some M))/\zCo w W M W.pn vd/\zEW w lo hi W.pn W.zRP vd
abbrev zGG(A:Nat):Value:=.func (.func 190) #[] #[.pointer (some ⟨A,0,none⟩)]
theorem zBQ.zRJ{w w':World}{lo hi:Nat}{W:zH}{A:Nat}(h:zBQ w lo hi W A)(t:Below w.heap.size w w'):zBQ w' lo hi W A:=by
 obtain⟨M,vd,h1,h2,h3⟩:=h;exact⟨M,vd,h1.zRJ t,h2.zRJ t,fun i hi'=>(h3 i hi').zRJ t⟩
theorem zOA(w:World):(zeroValue 99).run Tryz.prog w = .ok (.agg #[.int .i64 0,.string ⟨#[]⟩,.string ⟨#[]⟩,.int .i64 0,.int .i64 0,.int .i64 0,.int .i64 0,.slice none 0 0]) w:=by kernel_rfl
theorem zMa{W:zH}{w:World}{lo hi:Nat}{vd:Nat->Value}(hD:zCK W)(hd:zEW w lo hi W.pn W.zRP vd)(x:Int):∃a c,(putD (fun i=>zJz (W.zRP i).id) (fun i=>yf (vd i) (W.zRP i)) W.pn).atKey (zJz x) (.held (.agg #[.int .i64 0,.string ⟨#[]⟩,.string ⟨#[]⟩,.int .i64 0,.int .i64 0,.int .i64 0,.int .i64 0,.slice none 0 0])) = .held (yf (.slice a (zN W x).dn c) (zN W x))/\zR w lo hi (.slice a (zN W x).dn c) (zN W x).dn (zN W x).ds (zN W x).db:=by
 have hk:zDa (fun i=>zJz (W.zRP i).id):=fun i=>zPJ _
 by_cases hx:∃k,qz W x k
 ·obtain⟨k,aA⟩:=hx;rw[yB aA];have hp:=hd k aA.1;obtain⟨_,a,c,hv,_⟩:=id hp;refine⟨a,c,?_,by rw[<-hv];exact hp⟩;have:=zJ6 hk (fun i=>yf (vd i) (W.zRP i)) (.held (.agg #[.int .i64 0,.string ⟨#[]⟩,.string ⟨#[]⟩,.int .i64 0,.int .i64 0,.int .i64 0,.int .i64 0,.slice none 0 0])) W.pn k aA.1 (fun j h1 h2 e=>hD j h2 k h1 (zLG e).symm);rw[aA.2.1]at this;rw[this,hv]
 ·have e:zN W x=yO:=(by unfold zN;rw[dif_neg hx]);rw[e];refine⟨none,0,?_,⟨Nat.zero_le _,none,0,rfl,Nat.le_refl _,fun h=>absurd h (by simp[yO])⟩⟩;refine zGU hk _ (fun i hi' e2=>?_) _;exact hx (zGF (Nat.le_refl _) ⟨i,hi',zLG e2⟩)
theorem zBo(lo hi:Nat)(W:zH)(A:Nat)(x:Int)(w:World)(h:zBQ w lo hi W A)(hD:zCK W)(hx:(Lit.int .i64 x).wf=true)(hn:W.pn<=20) :
  Calls Tryz.prog 190 #[.int .i64 x,.pointer (some ⟨A,0,none⟩)] w fun e w'=>∃a c,e = .returned (yf (.slice a (zN W x).dn c) (zN W x))/\zR w lo hi (.slice a (zN W x).dn c) (zN W x).dn (zN W x).ds (zN W x).db/\Below w.heap.size w w':=by
 obtain⟨M,vd,hc,hm,hd⟩:=h;obtain⟨a,c,dA,hp⟩:=zMa hD hd x;have eA:=zB dA;have fA:=zB hp;have bA:=zB (zNO hx);clear dA hp hd hx;unfold yf at eA ⊢;generalize zN W x=S at *;have aA:=zC w (.cells #[.int .i64 0,.string ⟨#[]⟩,.string ⟨#[]⟩,.int .i64 0,.int .i64 0,.int .i64 0,.int .i64 0,.slice none 0 0] 99);have HM:=zB (hm.zRJ aA);obtain⟨x0,-⟩:=hc.zRJ aA;have cA:=zC w (.cells #[.int .i64 S.id,.string S.name,.string S.set,.int .i64 S.zRT,.int .i64 S.time,.int .i64 S.rs,.int .i64 S.rb,.slice a S.dn c] 99);obtain⟨⟨⟨y0,-⟩,⟨y1,-⟩,⟨y2,-⟩,⟨y3,-⟩⟩,⟨y4,-⟩,⟨y5,-⟩,⟨y6,-⟩,⟨y7,-⟩⟩:=zCH.zRL w (.int .i64 S.id) (.string S.name) (.string S.set) (.int .i64 S.zRT) (.int .i64 S.time) (.int .i64 S.rs) (.int .i64 S.rb) (.slice a S.dn c) 99;clear hm hc aA;go_enter Tryz.func190,Tryz.ntmps190;go_wp2_with (first
  | (at_lookup;refine zFf _ rfl _ _ 218 rfl 2 99 zQ8 zPw (zOA _) M W.pn _ rfl HM.out _ _ rfl bA.out _ eA.out ?_)
  | go_in)
 refine bodyPost_ret (v:=.agg #[.int .i64 S.id,.string S.name,.string S.set,.int .i64 S.zRT,.int .i64 S.time,.int .i64 S.rs,.int .i64 S.rb,.slice a S.dn c]) (by simp[results,Tryz.results190,go_sem,y0,y1,y2,y3,y4,y5,y6,y7]) rfl ⟨a,c,rfl,fA.out,cA⟩
theorem zGx(v0 v1 v2 v3:Value)(lo hi:Nat)(W:zH)(w:World)(h:zl w lo hi v0 v1 v2 v3 W)(hn:W.pn<=20)(fA:zNd W.pn W.zRP) :
  Calls Tryz.prog 152 #[zz v0 v1 v2 v3 W] w fun e w'=>∃A,e = .returned (zGG A)/\zBQ w' lo hi W A/\Below w.heap.size w w':=by
 have Hp:=zB h;clear h;have gA:∀(fn:Fn) (first cA:Array Value) (w:World),(Instr.makeFunc fn first cA).run Tryz.prog w = .ok (.func fn first cA) w:=fun _ _ _ _=>rfl
 have ha:=zC w (.cells #[v0,v1,.int .i64 W.time,.int .i64 W.next,v2,v3] 37);obtain⟨⟨x0,-⟩,⟨x2,-⟩,⟨x4,-⟩,⟨x6,-⟩,⟨x8,-⟩,⟨dA,-⟩⟩:=zi.zRL w v0 v1 (.int .i64 W.time) (.int .i64 W.next) v2 v3 37;go_enter Tryz.func152,Tryz.ntmps152;go_wp2_with fail;clear x0 x2 x4 x6 x8 dA;generalize w.alloc (.cells #[v0,v1,.int .i64 W.time,.int .i64 W.next,v2,v3] 37)=W0 at ha ⊢;refine(zI8 v0 v1 v2 v3 lo hi W W0 (Hp.out.zRJ ha) hn fA).mono ?_;rintro e w1 ⟨vd,rfl,hm,hd,bA⟩;have aA:=zC w1 (.cells #[.map (some (W0.heap.size+1))] 218);have hc:zX (w1.alloc (.cells #[.map (some (W0.heap.size+1))] 218)) w1.heap.size 0 (.map (some (W0.heap.size+1))):=zI (heap_alloc_new _ _) rfl;have HA:=zB (show zBQ (w1.alloc (.cells #[.map (some (W0.heap.size+1))] 218)) lo hi W w1.heap.size from⟨_,vd,hc,hm.zRJ aA,fun i hi'=>((hd i hi').zRJ bA).zRJ aA⟩);have eA:=zA (zA ha bA) aA;clear hm hd bA aA hc;go_wp2;go_ret;exact⟨_,rfl,HA.out,eA⟩
end Go.Proofs.YtmgeglgboadfiaaGreatDoor
