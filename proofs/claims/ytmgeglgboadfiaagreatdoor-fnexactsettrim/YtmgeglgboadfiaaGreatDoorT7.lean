/- The line of a set by Prev, as plain facts (no law is proved here). -/
import Derived.Test.YtmgeglgboadfiaaGreatDoorT6
import Derived.WideKeyPair
import Derived.DeepKeys4
set_option linter.unusedVariables false
set_option maxRecDepth 20000
set_option maxHeartbeats 4000000
namespace Go.Proofs.YtmgeglgboadfiaaGreatDoor
open Go.RowKit Go.Maps
open Classical in
noncomputable def yt(W:zH)(name:ByteArray):Nat->Nat
 | 0=>0
 | k+1=>yt W name k+(if (W.zRP k).set=name then 1 else 0)
theorem zIb{W:zH}{name:ByteArray}{k:Nat}(h:(W.zRP k).set=name):yt W name (k+1)=yt W name k+1:=by simp[yt,h]
theorem zJs{W:zH}{name:ByteArray}{k:Nat}(h:¬(W.zRP k).set=name):yt W name (k+1)=yt W name k:=by simp[yt,h]
theorem zHK(W:zH)(name:ByteArray):∀k,yt W name k<=k
 | 0=>Nat.le_refl _
 | k+1=>by
  have:=zHK W name k;by_cases h:(W.zRP k).set=name
  ·rw[zIb h];omega
  ·rw[zJs h];omega
inductive Steps (W:zH) (name:ByteArray) (start:Int):Nat->Int->Prop
 | zero:Steps W name start 0 start
 | next {n:Nat} {x:Int} {k:Nat}:Steps W name start n x->yC W x k->(W.zRP k).set=name->Steps W name start (n+1) (W.zRP k).zRT
def zFp(W:zH)(name:ByteArray)(x:Int):Prop:=∃k,yC W x k/\(W.zRP k).set=name
def zBR(W:zH)(name:ByteArray)(start origin:Int):Prop:=∃n e,Steps W name start n e/\¬zFp W name e/\n=yt W name W.pn/\e=origin
theorem Steps.det{W:zH}{name:ByteArray}{start:Int}:∀{n:Nat} {x y:Int},Steps W name start n x->Steps W name start n y->x=y
 | 0,_,_,.zero,.zero=>rfl
 | n+1,_,_,.next h hk _,.next h' hk' _=>by
  have e:=Steps.det h h';subst e;rw[yC.uniq hk hk']
theorem Steps.less{W:zH}{name:ByteArray}{start:Int}:∀{n m:Nat} {x:Int},Steps W name start m x->n<m->∃y,Steps W name start n y/\zFp W name y
 | n,0,_,_,h=>absurd h (Nat.not_lt_zero _)
 | n,m+1,_,.next (x:=x) h hk hs,hl=>by
  by_cases e:n=m
  ·subst e;exact⟨x,h,_,hk,hs⟩
  ·exact Steps.less h (by omega)
theorem Steps.end{W:zH}{name:ByteArray}{start:Int}{n m:Nat}{x y:Int}(h:Steps W name start n x)(hx:¬zFp W name x)(h':Steps W name start m y)(hy:¬zFp W name y):n=m/\x=y:=by
 have e:n=m:=by
  rcases Nat.lt_trichotomy n m with hl | hl | hl
  ·obtain⟨z,hz,ho⟩:=h'.less hl;rw[h.det hz]at hx;exact absurd ho hx
  ·exact hl
  ·obtain⟨z,hz,ho⟩:=h.less hl;rw[h'.det hz]at hy;exact absurd ho hy
 subst e;exact⟨rfl,h.det h'⟩
theorem zCd{W:zH}{name:ByteArray}{start origin:Int}{n:Nat}{x:Int}(h:Steps W name start n x)(hx:¬zFp W name x):zBR W name start origin↔n=yt W name W.pn/\x=origin:=by
 constructor
 ·rintro⟨m,y,hs,hy,h1,h2⟩;obtain⟨rfl,rfl⟩:=h.end hx hs hy;exact⟨h1,h2⟩
 ·rintro⟨h1,h2⟩;exact⟨n,x,h,hx,h1,h2⟩
theorem zHZ{W:zH}{x r:Int}{k:Nat}(hk:yC W x k)(h:zFm W.pn (fun k=>(W.zRP k).id=x) r):r=(k:Int):=by
 rcases h with⟨j,hj,e,hm,rfl⟩ | ⟨hn,_⟩
 ·rw[yC.uniq hk ⟨hj,e,hm⟩]
 ·exact absurd hk.2.1 (hn k hk.1)
theorem qs.no{W:zH}{x:Int}(h:qs W x):∃k,yC W x k:=zGb (Nat.le_refl _) h
structure zB9 (W:zH):Prop where
 ids:∀k,k<W.pn->1<=(W.zRP k).id/\(W.zRP k).id<900000
 zRT:∀k,k<W.pn->(W.zRP k).zRT=0\/qs W (W.zRP k).zRT
 less:∀k,k<W.pn->(W.zRP k).zRT<(W.zRP k).id
 zRS:∀k,k<W.sn->(W.zRS k).zRT=0\/qs W (W.zRS k).zRT
 zRa:∀k,k<W.sn->(W.zRS k).name.toList.isEmpty=false
theorem zB9.pos{W:zH}(h:zB9 W):zCc W:=fun k hk=>(h.ids k hk).1
theorem qs.range{W:zH}(h:zB9 W){x:Int}(hx:qs W x):1<=x/\x<900000:=by
 obtain⟨k,hk,rfl⟩:=hx;exact h.ids k hk
theorem zC4{s:ByteArray}(h:yM s):s.toList.isEmpty=false:=by
 have:=h.1;rw[Go.ByteArray.toList_eq];cases s with
 | mk d=>
  cases hd:d.toList with
  | nil=>
   have h0:d.size=0:=(by rw[<-Array.length_toList,hd];rfl);have h1:1<=d.size:=this;omega
  | cons a l=>simp
theorem zBK.prevOk{W:zH}(h:zBK W):zB9 W where
 ids:=fun k hk=>⟨(h.2.2.2.2.2 k hk).1.1,by have:=(h.2.2.2.2.2 k hk).1.2.1;have:=h.2.1.2;omega⟩
 zRT:=fun k hk=>by
  by_cases e:(W.zRP k).zRT=0
  ·exact Or.inl e
  ·exact Or.inr ((h.2.2.2.2.2 k hk).2.1.2 e).2
 less:=fun k hk=>by
  by_cases e:(W.zRP k).zRT=0
  ·have:=(h.2.2.2.2.2 k hk).1.1;omega
  ·exact((h.2.2.2.2.2 k hk).2.1.2 e).1
 zRS:=fun k hk=>by
  by_cases e:(W.zRS k).zRT=0
  ·exact Or.inl e
  ·exact Or.inr ((h.2.2.2.2.1 k hk).2.2.1 e)
 zRa:=fun k hk=>zC4 (h.2.2.2.2.1 k hk).1
structure zCS (W:zH) (name:ByteArray) (start:Int) (n:Nat) (x:Int):Prop where
 steps:Steps W name start n x
 there:x=0\/qs W x
 least:0<=x
 sum:(n:Int)+x<=900000
theorem zCS.start{W:zH}(h:zB9 W)(name:ByteArray){x:Int}(hx:x=0\/qs W x):zCS W name x 0 x where
 steps:=.zero
 there:=hx
 least:=by rcases hx with rfl | hx;exact Int.le_refl _;have:=hx.range h;omega
 sum:=by rcases hx with rfl | hx;decide;have:=hx.range h;omega
theorem zCS.next{W:zH}(h:zB9 W){name:ByteArray}{start:Int}{n:Nat}{x:Int}(hw:zCS W name start n x){k:Nat}(hk:yC W x k)(hs:(W.zRP k).set=name):zCS W name start (n+1) (W.zRP k).zRT where
 steps:=hw.steps.next hk hs
 there:=h.zRT k hk.1
 least:=by rcases h.zRT k hk.1 with e | e;omega;have:=e.range h;omega
 sum:=by have h1:=h.less k hk.1;have h2:=hw.sum;have h3:=hk.2.1;omega
theorem zKO{W:zH}(h:zB9 W)(name:ByteArray):¬zFp W name 0:=fun ⟨k,hk,_⟩=>by
 have:=(h.ids k hk.1).1;have:=hk.2.1;omega
theorem zMh{W:zH}{name:ByteArray}{x:Int}{k:Nat}(hk:yC W x k)(hs:¬(W.zRP k).set=name):¬zFp W name x:=fun ⟨j,hj,e⟩=>hs (by rw[yC.uniq hk hj];exact e)
theorem zI1(v0 v1 v2 v3:Value)(lo hi:Nat)(W:zH)(w:World)(h:zl w lo hi v0 v1 v2 v3 W)(hP:zB9 W)(hs:W.sn<=8)(hp:W.pn<=20) :
  Calls Tryz.prog 70 #[zz v0 v1 v2 v3 W] w fun e w'=>zG (∀i,i<W.sn->zBR W (W.zRS i).name (W.zRS i).zRT (W.zRS i).origin) e/\Below w.heap.size w w':=by
 have Hp:=zB h;have HP:=zB hP;obtain⟨m1,a,c,rfl,mc,-⟩:=id h.zRP;obtain⟨m2,a',c',rfl,aC,-⟩:=id h.zRS;unfold maxLen at m1 m2;clear h hP;have ha:=zC w (.cells #[v0,v1,.int .i64 W.time,.int .i64 W.next,.slice a' W.sn c',.slice a W.pn c] 37);have HB:=zB (zi.zRL w v0 v1 (.int .i64 W.time) (.int .i64 W.next) (.slice a' W.sn c') (.slice a W.pn c) 37);go_enter Tryz.func70,Tryz.ntmps70;go_wp2
 go_loopw [3] (fun i wr=>∃k:Nat,k<=W.sn/\i = .int .i64 k/\(∀j,j<k->zBR W (W.zRS j).name (W.zRS j).zRT (W.zRS j).origin)/\zi wr w.heap.size v0 v1 (.int .i64 W.time) (.int .i64 W.next) (.slice a' W.sn c') (.slice a W.pn c)/\Below w.heap.size w wr) (fun i _=>W.sn - (intOf i).toNat)
 case atStart=>exact⟨0,Nat.zero_le _,rfl,fun j hj=>absurd hj (Nat.not_lt_zero _),HB.out,ha⟩
 case round=>
  obtain⟨k,hk,rfl,nA,hX,hb⟩:=hrel;have gA:=zB nA;have HX:=zB hX;clear nA hX ha HB;obtain⟨⟨x0,-⟩,⟨x2,-⟩,⟨x4,-⟩,⟨x6,-⟩,⟨x8,-⟩,⟨jA,-⟩⟩:=HX.out;by_cases cA:k<W.sn;rotate_left
  ·obtain rfl:k=W.sn:=(by omega);go_wp2;go_ret;exact⟨zG.yes gA.out,hb⟩
  have pB:(k:Int)<(W.sn:Int):=(by omega);obtain⟨b,off,vd,rfl,-⟩:=(Hp.out.zRS.zRJ hb).cells cA;go_wp2;clear x0 x2 x4 x6 x8 jA
  go_loopw [5,6] (fun o i wr=>∃j:Nat,j<=W.pn/\i = .int .i64 j/\o = .int .i64 (yt W (W.zRS k).name j)/\zi wr w.heap.size v0 v1 (.int .i64 W.time) (.int .i64 W.next) (.slice (some ⟨b,off,none⟩) W.sn c') (.slice a W.pn c)/\Below w.heap.size w wr) (fun _ i _=>W.pn - (intOf i).toNat)
  case atStart=>exact⟨0,Nat.zero_le _,rfl,rfl,HX.out,hb⟩
  case round=>
   clear HX hb;obtain⟨j,hj,rfl,rfl,hX,hb⟩:=hrel;have HX:=zB hX;clear hX;obtain⟨⟨x0,-⟩,⟨x2,-⟩,⟨x4,-⟩,⟨x6,-⟩,⟨x8,-⟩,⟨jA,-⟩⟩:=HX.out;obtain⟨b',dB,lB,e',eA⟩:=(Hp.out.zRS.zRJ hb).cells cA;cases e';have n0:=eA.c0;have n1:=eA.c1;have n2:=eA.c2;clear eA;have bC:=zHK W (W.zRS k).name j;by_cases oB:j<W.pn
   ·have fB:(j:Int)<(W.pn:Int):=(by omega);obtain⟨b2,aA,kB,rfl,kA⟩:=(Hp.out.zRP.zRJ hb).cells oB;have q2:=kA.c2;clear kA;have rB:((yt W (W.zRS k).name j:Nat):Int)<1000:=(by omega);by_cases he:(W.zRP j).set=(W.zRS k).name
    ·have f1:=zCg he;have H1:=zB (zIb he);clear he;go_wp2
     go_quiet (fail)
     go_wp2;go_roundw
     case rel=>exact⟨j+1,by omega,by go_num,by rw[H1.out];go_num,HX.out.zRJ (zg (Below.refl _ _) _),zg hb _⟩
     case measure=>simp[intOf];omega
    ·have f1:=zEO he;have H1:=zB (zJs he);clear he;go_wp2
     go_quiet (fail)
     go_wp2;go_roundw
     case rel=>exact⟨j+1,by omega,by go_num,by rw[H1.out],HX.out.zRJ (zg (Below.refl _ _) _),zg hb _⟩
     case measure=>simp[intOf];omega
   ·obtain rfl:j=W.pn:=(by omega);go_wp2;clear x0 x2 x4 x6 x8 jA n0 n1 n2
    go_loopw [4,7] (fun i x wr=>∃(n:Nat) (y:Int),i = .int .i64 n/\x = .int .i64 y/\zCS W (W.zRS k).name (W.zRS k).zRT n y/\zi wr w.heap.size v0 v1 (.int .i64 W.time) (.int .i64 W.next) (.slice (some ⟨b,off,none⟩) W.sn c') (.slice a W.pn c)/\Below w.heap.size w wr) (fun _ x _=>(intOf x).toNat)
    case atStart=>exact⟨0,_,rfl,rfl,zCS.start HP.out _ (HP.out.zRS k cA),HX.out,hb⟩
    case round=>
     clear HX hb;obtain⟨n,y,rfl,rfl,hw,hX,hb⟩:=hrel;have HX:=zB hX;have Hw:=zB hw;have nB:=hw.sum;have sB:=hw.least;clear hX hw;obtain⟨⟨x0,-⟩,⟨x2,-⟩,⟨x4,-⟩,⟨x6,-⟩,⟨x8,-⟩,⟨jA,-⟩⟩:=HX.out;obtain⟨b',dB,lB,e',eA⟩:=(Hp.out.zRS.zRJ hb).cells cA;cases e';have n0:=eA.c0;have n1:=eA.c1;clear eA;by_cases hz:y=0
     ·have iA:=zB (show ¬zFp W (W.zRS k).name y by rw[hz];exact zKO HP.out _);have sA:(y == 0)=true:=(by simp[hz]);have rA:decide (y=0)=true:=(by simp[hz]);have tA:(y != 0)=false:=(by simp[hz]);clear hz;go_wp2_with fail
      go_quiet (fail)
      clear sA rA tA;have dA:=zB HX.out;clear x0 x2 x4 x6 x8 jA;obtain⟨⟨e0,-⟩,⟨e2,-⟩,⟨e4,-⟩,⟨e6,-⟩,⟨e8,-⟩,⟨cB,-⟩⟩:=dA.out;by_cases h1:n=yt W (W.zRS k).name W.pn
      ·by_cases h2:y=(W.zRS k).origin
       ·have Hl:=zB ((zCd (origin:=(W.zRS k).origin) Hw.out.steps iA.out).2 ⟨h1,h2⟩);have g1:((n:Int) == (yt W (W.zRS k).name W.pn:Int))=true:=(by simp[h1]);have g2:((n:Int) != (yt W (W.zRS k).name W.pn:Int))=false:=(by simp[h1]);have g3:decide ((n:Int)=(yt W (W.zRS k).name W.pn:Int))=true:=(by simp[h1]);have g4:(y == (W.zRS k).origin)=true:=(by simp[h2]);have g5:(y != (W.zRS k).origin)=false:=(by simp[h2]);have g6:decide (y=(W.zRS k).origin)=true:=(by simp[h2]);clear h1 h2;go_wp2;go_roundw
        case rel=>exact⟨k+1,by omega,by go_num,zo cA gA.out Hl.out,HX.out.zRJ (zg (Below.refl _ _) _),zg hb _⟩
        case measure=>simp[intOf];omega
       ·have Hl:=zB (show ¬zBR W (W.zRS k).name (W.zRS k).zRT (W.zRS k).origin from fun h=>h2 ((zCd Hw.out.steps iA.out).1 h).2);have g1:((n:Int) == (yt W (W.zRS k).name W.pn:Int))=true:=(by simp[h1]);have g2:((n:Int) != (yt W (W.zRS k).name W.pn:Int))=false:=(by simp[h1]);have g3:decide ((n:Int)=(yt W (W.zRS k).name W.pn:Int))=true:=(by simp[h1]);have g4:(y == (W.zRS k).origin)=false:=(by simp[h2]);have g5:(y != (W.zRS k).origin)=true:=(by simp[h2]);have g6:decide (y=(W.zRS k).origin)=false:=(by simp[h2]);clear h1 h2;go_wp2;go_ret;exact⟨zG.no fun hA=>Hl.out (hA k cA),zg hb _⟩
      ·have Hl:=zB (show ¬zBR W (W.zRS k).name (W.zRS k).zRT (W.zRS k).origin from fun h=>h1 ((zCd Hw.out.steps iA.out).1 h).1);have h3:¬(n:Int)=(yt W (W.zRS k).name W.pn:Int):=(by omega);have g1:((n:Int) == (yt W (W.zRS k).name W.pn:Int))=false:=(by simp[h3]);have g2:((n:Int) != (yt W (W.zRS k).name W.pn:Int))=true:=(by simp[h3]);have g3:decide ((n:Int)=(yt W (W.zRS k).name W.pn:Int))=false:=(by simp[h3]);clear h1 h3;go_wp2;go_ret;exact⟨zG.no fun hA=>Hl.out (hA k cA),zg hb _⟩
     ·obtain⟨kk,pA⟩:=(Hw.out.there.resolve_left hz).no;have mA:=zB pA;have bB:kk<W.pn:=pA.1;have jB:(kk:Int)<(W.pn:Int):=(by omega);have vA:=(HP.out.ids kk bB).1;have aB:=pA.2.1;have tB:1<=y:=(by omega);have lA:=HP.out.less kk bB;have gB:=zB (show(W.zRP kk).zRT<y by omega);clear pA vA aB lA;have sA:(y == 0)=false:=(by simp[hz]);have rA:decide (y=0)=false:=(by simp[hz]);have tA:(y != 0)=true:=(by simp[hz]);clear hz;obtain⟨b2,aA,kB,rfl,kA⟩:=(Hp.out.zRP.zRJ hb).cells bB;have q2:=kA.c2;have q3:=kA.c3;clear kA;by_cases he:(W.zRP kk).set=(W.zRS k).name
      ·have eB:=zB (Hw.out.next HP.out mA.out he);rw[he]at q2;clear he;go_wp2_with fail;go_region_held3 (fun w'=>w'.cell? ⟨w.heap.size,0,none⟩=some v0/\w'.cell? ⟨w.heap.size,1,none⟩=some v1/\w'.cell? ⟨w.heap.size,2,none⟩=some (.int .i64 W.time)/\w'.cell? ⟨w.heap.size,3,none⟩=some (.int .i64 W.next)/\w'.cell? ⟨w.heap.size,4,none⟩=some (.slice (some ⟨b,off,none⟩) W.sn c')/\w'.cell? ⟨w.heap.size,5,none⟩=some (.slice (some ⟨b2,aA,none⟩) W.pn c)/\w'.cell? ⟨b2,aA+kk*8+2,none⟩=some (.string (W.zRS k).name)/\w'.cell? ⟨b,off+k*6,none⟩=some (.string (W.zRS k).name)) (go_keep)
        (first | (go_at_call 49;refine(qH v0 v1 _ _ lo hi W y _ ?_).mono ?_;(exact(Hp.out.zRJ hb).zRJ (Below.refl _ _).drew);rintro e w6 ⟨r,rfl,hF,bA⟩;obtain rfl:=zHZ mA.out hF;obtain⟨⟨y0,_⟩,⟨y1,_⟩,⟨y2,_⟩,⟨y3,_⟩,⟨y4,_⟩,⟨y5,_⟩⟩:=HX.out.zRJ (zK bA);have z2:=(bA.cell (p:=⟨b2,aA+kk*8+2,none⟩) (zD q2)).trans q2;have z0:=(bA.cell (p:=⟨b,off+k*6,none⟩) (zD n0)).trans n0))
       have dA:=zB (HX.out.zRJ (zK bA));have fA:=qi hb bA;have z3:=(bA.cell (p:=⟨b2,aA+kk*8+3,none⟩) (zD q3)).trans q3;have z1:=(bA.cell (p:=⟨b,off+k*6+1,none⟩) (zD n1)).trans n1;clear bA HX hb hF y0 y1 y2 y3 y4 y5 x0 x2 x4 x6 x8 jA q2 q3 n0 n1 sA rA tA;have vB:(n:Int)<1000000:=(by omega);obtain⟨⟨e0,-⟩,⟨e2,-⟩,⟨e4,-⟩,⟨e6,-⟩,⟨e8,-⟩,⟨cB,-⟩⟩:=dA.out;go_wp2_with fail;go_region_held3 (fun w'=>w'.cell? ⟨w.heap.size,0,none⟩=some v0/\w'.cell? ⟨w.heap.size,1,none⟩=some v1/\w'.cell? ⟨w.heap.size,2,none⟩=some (.int .i64 W.time)/\w'.cell? ⟨w.heap.size,3,none⟩=some (.int .i64 W.next)/\w'.cell? ⟨w.heap.size,4,none⟩=some (.slice (some ⟨b,off,none⟩) W.sn c')/\w'.cell? ⟨w.heap.size,5,none⟩=some (.slice (some ⟨b2,aA,none⟩) W.pn c)/\w'.cell? ⟨b2,aA+kk*8+3,none⟩=some (.int .i64 (W.zRP kk).zRT)) (go_keep)
        (first | (go_at_call 49;refine(qH v0 v1 _ _ lo hi W y _ ?_).mono ?_;(exact(Hp.out.zRJ fA).zRJ (Below.refl _ _).drew);rintro e w7 ⟨r,rfl,hF,oA⟩;obtain rfl:=zHZ mA.out hF;obtain⟨⟨y0,_⟩,⟨y1,_⟩,⟨y2,_⟩,⟨y3,_⟩,⟨y4,_⟩,⟨y5,_⟩⟩:=dA.out.zRJ (zK oA);have z4:=(oA.cell (p:=⟨b2,aA+kk*8+3,none⟩) (zD z3)).trans z3))
       have iB:=zB (dA.out.zRJ (zK oA));have mB:=qi fA oA;clear oA dA fA hF y0 y1 y2 y3 y4 y5 e0 e2 e4 e6 e8 cB;go_wp2;go_roundw
       case rel=>exact⟨n+1,_,by go_num,rfl,eB.out,iB.out,mB⟩
       case measure=>simp[intOf];have:=gB.out;have:=eB.out.least;omega
      have iA:=zB (zMh mA.out he);have f1:=zEO he;clear he;go_wp2_with fail;go_region_held3 (fun w'=>w'.cell? ⟨w.heap.size,0,none⟩=some v0/\w'.cell? ⟨w.heap.size,1,none⟩=some v1/\w'.cell? ⟨w.heap.size,2,none⟩=some (.int .i64 W.time)/\w'.cell? ⟨w.heap.size,3,none⟩=some (.int .i64 W.next)/\w'.cell? ⟨w.heap.size,4,none⟩=some (.slice (some ⟨b,off,none⟩) W.sn c')/\w'.cell? ⟨w.heap.size,5,none⟩=some (.slice (some ⟨b2,aA,none⟩) W.pn c)/\w'.cell? ⟨b2,aA+kk*8+2,none⟩=some (.string (W.zRP kk).set)/\w'.cell? ⟨b,off+k*6,none⟩=some (.string (W.zRS k).name)) (go_keep)
       (first | (go_at_call 49;refine(qH v0 v1 _ _ lo hi W y _ ?_).mono ?_;(exact(Hp.out.zRJ hb).zRJ (Below.refl _ _).drew);rintro e w6 ⟨r,rfl,hF,bA⟩;obtain rfl:=zHZ mA.out hF;obtain⟨⟨y0,_⟩,⟨y1,_⟩,⟨y2,_⟩,⟨y3,_⟩,⟨y4,_⟩,⟨y5,_⟩⟩:=HX.out.zRJ (zK bA);have z2:=(bA.cell (p:=⟨b2,aA+kk*8+2,none⟩) (zD q2)).trans q2;have z0:=(bA.cell (p:=⟨b,off+k*6,none⟩) (zD n0)).trans n0))
      have dA:=zB (HX.out.zRJ (zK bA));have fA:=qi hb bA;have z3:=(bA.cell (p:=⟨b2,aA+kk*8+3,none⟩) (zD q3)).trans q3;have z1:=(bA.cell (p:=⟨b,off+k*6+1,none⟩) (zD n1)).trans n1;clear bA HX hb hF y0 y1 y2 y3 y4 y5 x0 x2 x4 x6 x8 jA q2 q3 n0 n1 sA rA tA;clear f1;obtain⟨⟨e0,-⟩,⟨e2,-⟩,⟨e4,-⟩,⟨e6,-⟩,⟨e8,-⟩,⟨cB,-⟩⟩:=dA.out;by_cases h1:n=yt W (W.zRS k).name W.pn
      ·by_cases h2:y=(W.zRS k).origin
       ·have Hl:=zB ((zCd (origin:=(W.zRS k).origin) Hw.out.steps iA.out).2 ⟨h1,h2⟩);have g1:((n:Int) == (yt W (W.zRS k).name W.pn:Int))=true:=(by simp[h1]);have g2:((n:Int) != (yt W (W.zRS k).name W.pn:Int))=false:=(by simp[h1]);have g3:decide ((n:Int)=(yt W (W.zRS k).name W.pn:Int))=true:=(by simp[h1]);have g4:(y == (W.zRS k).origin)=true:=(by simp[h2]);have g5:(y != (W.zRS k).origin)=false:=(by simp[h2]);have g6:decide (y=(W.zRS k).origin)=true:=(by simp[h2]);clear h1 h2;go_wp2;go_roundw
        case rel=>exact⟨k+1,by omega,by go_num,zo cA gA.out Hl.out,dA.out,fA⟩
        case measure=>simp[intOf];omega
       ·have Hl:=zB (show ¬zBR W (W.zRS k).name (W.zRS k).zRT (W.zRS k).origin from fun h=>h2 ((zCd Hw.out.steps iA.out).1 h).2);have g1:((n:Int) == (yt W (W.zRS k).name W.pn:Int))=true:=(by simp[h1]);have g2:((n:Int) != (yt W (W.zRS k).name W.pn:Int))=false:=(by simp[h1]);have g3:decide ((n:Int)=(yt W (W.zRS k).name W.pn:Int))=true:=(by simp[h1]);have g4:(y == (W.zRS k).origin)=false:=(by simp[h2]);have g5:(y != (W.zRS k).origin)=true:=(by simp[h2]);have g6:decide (y=(W.zRS k).origin)=false:=(by simp[h2]);clear h1 h2;go_wp2;go_ret;exact⟨zG.no fun hA=>Hl.out (hA k cA),fA⟩
      ·have Hl:=zB (show ¬zBR W (W.zRS k).name (W.zRS k).zRT (W.zRS k).origin from fun h=>h1 ((zCd Hw.out.steps iA.out).1 h).1);have h3:¬(n:Int)=(yt W (W.zRS k).name W.pn:Int):=(by omega);have g1:((n:Int) == (yt W (W.zRS k).name W.pn:Int))=false:=(by simp[h3]);have g2:((n:Int) != (yt W (W.zRS k).name W.pn:Int))=true:=(by simp[h3]);have g3:decide ((n:Int)=(yt W (W.zRS k).name W.pn:Int))=false:=(by simp[h3]);clear h1 h3;go_wp2;go_ret;exact⟨zG.no fun hA=>Hl.out (hA k cA),fA⟩
def zDA(W:zH)(i:Nat):Prop:=zDh (zO W i).dn (zO W i).ds (zO W i).db (zAP (zCr W (zO W i)) (yU W (zO W i)))
structure zNL (W:zH):Prop where
 right:zv W.zRQ
 zRa:zBK W
 lines:∀i,i<W.sn->zBR W (W.zRS i).name (W.zRS i).zRT (W.zRS i).origin
 zRP:∀i,i<W.pn->qG W.zRQ (W.zRP i).rs (W.zRP i).rb
 zRS:∀i,i<W.sn->qG W.zRQ (W.zRS i).rs (W.zRS i).rb/\zDA W (W.pn+i)
 zRX:∀i,i<W.pn->zDA W i
 reach:zEm W
 born:∀i,i<zq W->zCb W i
 zRW:zGf W
theorem zPR{W:zH}(h:∀k,k<W.pn->qG W.zRQ (W.zRP k).rs (W.zRP k).rb)(x:Int):qG W.zRQ (zN W x).rs (zN W x).rb:=by
 by_cases hx:∃k,yC W x k
 ·obtain⟨k,hk⟩:=hx;rw[yA hk];exact h k hk.1
 ·have:zN W x=yP:=by
   unfold zN;rw[dif_neg hx]
  rw[this];exact Or.inl ⟨rfl,rfl⟩
theorem zHv{W:zH}(hR:zv W.zRQ)(hN:zBK W)(h1:∀i,i<W.pn->qG W.zRQ (W.zRP i).rs (W.zRP i).rb)(h2:∀i,i<W.sn->qG W.zRQ (W.zRS i).rs (W.zRS i).rb):zBF W where
 right:=hR
 ids:=hN.prevOk.less
 tree:=fun i hi=>by
  by_cases hp:i<W.pn
  ·rw[qS hp];exact h1 i hp
  ·have e:=yH W (i - W.pn);rw[show W.pn+(i - W.pn)=i by omega]at e;rw[e];unfold zq at hi;exact h2 _ (by omega)
 time:=fun i hi=>by
  by_cases hp:i<W.pn
  ·rw[qS hp];have:1<=(W.zRP i).time:=(hN.2.2.2.2.2 i hp).1.2.2.1;show 0<=(W.zRP i).time;omega
  ·have e:=yH W (i - W.pn);rw[show W.pn+(i - W.pn)=i by omega]at e;rw[e];have:1<=W.time:=hN.1.1;show 0<=W.time;omega
theorem zNk{v0 v1 v2 v3 vd:Value}{lo hi:Nat}{W:zH}{w:World}(h:zl w lo hi v0 v1 v2 v3 W)(hR:zv W.zRQ)(hO:∀k,k<W.pn->qG W.zRQ (W.zRP k).rs (W.zRP k).rb)(hP:zCc W){k:Nat}(hk:k<W.pn)(hD:zU w lo hi vd (W.zRP k).dn (W.zRP k).ds (W.zRP k).db)(w':World)(hb:Below w.heap.size w w') :
  Calls Tryz.prog 72 #[zz v0 v1 v2 v3 W,.int .i64 (W.zRP k).zRT,.agg #[.int .i64 (W.zRP k).rs,.int .i64 (W.zRP k).rb],vd] w' fun e aA=>zG (zDA W k) e/\Below w'.heap.size w' aA:=by
 unfold zDA;rw[qS hk];exact zG4 v0 v1 v2 v3 vd lo hi lo hi _ _ _ W _ _ _ _ _ w' (h.zRJ hb) (hD.zRJ hb) hR (hO k hk) (zPR hO _) hP rfl rfl
theorem zOq{v0 v1 v2 v3 vd:Value}{lo hi:Nat}{W:zH}{w:World}(h:zl w lo hi v0 v1 v2 v3 W)(hR:zv W.zRQ)(hO:∀k,k<W.pn->qG W.zRQ (W.zRP k).rs (W.zRP k).rb)(hP:zCc W){k:Nat}(hT:qG W.zRQ (W.zRS k).rs (W.zRS k).rb)(hD:zU w lo hi vd (W.zRS k).dn (W.zRS k).ds (W.zRS k).db)(w':World)(hb:Below w.heap.size w w') :
  Calls Tryz.prog 72 #[zz v0 v1 v2 v3 W,.int .i64 (W.zRS k).zRT,.agg #[.int .i64 (W.zRS k).rs,.int .i64 (W.zRS k).rb],vd] w' fun e aA=>zG (zDA W (W.pn+k)) e/\Below w'.heap.size w' aA:=by
 unfold zDA;rw[yH];exact zG4 v0 v1 v2 v3 vd lo hi lo hi _ _ _ W _ _ _ _ _ w' (h.zRJ hb) (hD.zRJ hb) hR hT (zPR hO _) hP rfl rfl
def zCG(v:Value):Option (DataW Value×List MemPlace):=some (.held v,[])
theorem zEJ{v:Value}{d:DataW Value}{ps:List MemPlace}(h:zCG v=some (d,ps)):d = .held v:=by
 unfold zCG at h;simp only[Option.some.injEq,Prod.mk.injEq]at h;exact h.1.symm
theorem zBv(v:Value):zCG v=some (.held v,[]):=rfl
theorem zFj{P:Program}(w:World){eA:Array Oper}{aA:List Oper}{o:Oper}{a:Act}{Q:Exit->Act->World->Prop}
  (hg:o.guard=none) (m x:Operand) (t:TypeId) (hop:o.op=Op.lookup t m x false)
  (k e:TypeId) (K:Keyed P k) (ht:P.underlying t=some (.map k e)) {z:Value} (hz:(zeroValue e).run P w = .ok z w) (b n:Nat) (D:DataW Value)
  (hm:a.eval m = .map (some b)) (bA:w.ownsMap P k zCG b n D) (key:Value) (kl:Lit) (hx:a.eval x=key) (cA:keyOf P k key=some kl)
  (v:Value) (fA:D.atKey kl (.held z) = .held v) (hK:wpList P eA Q aA (a.put o.dst v) w) :
  wpList P eA Q (o :: aA) a w:=by
 refine wpList_plain hg fun K' gA=>?_
 obtain⟨v',ps,dA,hv⟩:=bA.lookup K ht hz (zBv z) cA;have e1:=zEJ hv;rw[fA]at e1;injection e1 with e1;subst e1;unfold Oper.wp;simp[execOp,hop,hm,hx,dA,Result.andThen];exact gA _ _ hK
theorem yz{P:Program}(w:World){dA:Array Oper}{aA:List Oper}{o:Oper}{a:Act}{Q:Exit->Act->World->Prop}
  (hg:o.guard=none) (m x:Operand) (t:TypeId) (hop:o.op=Op.lookup t m x true)
  (k e:TypeId) (K:Keyed P k) (ht:P.underlying t=some (.map k e)) {z:Value} (hz:(zeroValue e).run P w = .ok z w) (b n:Nat) (D:DataW Value)
  (hm:a.eval m = .map (some b)) (bA:w.ownsMap P k zCG b n D) (key:Value) (kl:Lit) (hx:a.eval x=key) (cA:keyOf P k key=some kl)
  (v:Value) (eA:D.atKey kl (.held z) = .held v) (c:Bool) (hc:Maps.has D kl=c) (hK:wpList P dA Q aA (a.put o.dst (.tuple #[v,.bool c])) w) :
  wpList P dA Q (o :: aA) a w:=by
 refine wpList_lookup_own_ok w hg m x t hop k e K ht zCG hz (.held z) [] (zBv z) b n D hm bA key kl hx cA (fun v' ps hv=>?_);have e1:=zEJ hv;rw[eA]at e1;injection e1 with e1;subst e1;rw[hc];exact hK
def putD(key:Nat->Lit)(val:Nat->Value):Nat->DataW Value
 | 0=>.map []
 | k+1=>(putD key val k).put (key k) (.held (val k))
def zDT(key:Nat->Lit):Prop:=∀i,WideAt.IsKeyLit (key i)
theorem zCQ{key:Nat->Lit}(hk:zDT key)(val:Nat->Value):∀k,Tidy (putD key val k)
 | 0=>tidy_empty
 | k+1=>(zCQ hk val k).put (hk k) _
theorem zD6{key:Nat->Lit}(hk:zDT key)(val:Nat->Value)(l:Lit):∀k,Maps.has (putD key val k) l=true↔∃i,i<k/\key i=l
 | 0=>by
  constructor
  ·intro h;exact absurd h (by simp[putD,Maps.has])
  ·rintro⟨i,hi,_⟩;omega
 | k+1=>by
  by_cases hx:key k=l
  ·subst hx;exact⟨fun _=>⟨k,by omega,rfl⟩,fun _=>has_put_same (zCQ hk val k).isMap (hk k) _⟩
  ·rw[show Maps.has (putD key val (k+1)) l=Maps.has (putD key val k) l from has_put_other (Ne.symm hx) _,zD6 hk val l k];constructor
   ·rintro⟨i,hi,e⟩;exact⟨i,by omega,e⟩
   ·rintro⟨i,hi,e⟩;by_cases h:i=k
    ·subst h;exact absurd e hx
    ·exact⟨i,by omega,e⟩
theorem zGh{key:Nat->Lit}(hk:zDT key)(val:Nat->Value){l:Lit}{k:Nat}(h:∀i,i<k->key i≠l)(z:DataW Value):(putD key val k).atKey l z=z:=by
 refine atKey_of_not_has ?_ _;rw[Bool.eq_false_iff];intro hh;obtain⟨i,hi,e⟩:=(zD6 hk val l k).1 hh;exact h i hi e
theorem zKx{key:Nat->Lit}(hk:zDT key)(val:Nat->Value)(z:DataW Value):∀k i,i<k->(∀j,i<j->j<k->key j≠key i)->(putD key val k).atKey (key i) z = .held (val i)
 | 0,i,hi,_=>absurd hi (Nat.not_lt_zero _)
 | k+1,i,hi,hd=>by
  by_cases e:i=k
  ·subst e;exact atKey_put_same (zCQ hk val i).isMap (hk i) _ _
  ·exact(atKey_put_other (Ne.symm (hd k (by omega) (by omega))) _ _).trans (zKx hk val z k i (by omega) (fun j h1 h2=>hd j h1 (by omega)))
def zFw(n:Nat)(key:Nat->Lit):Prop:=∀i,i<n->∀k,k<i->key k≠key i
theorem zFQ{k:Nat}{f:Nat->Lit}:zFw (k+1) f↔zFw k f/\∀i,i<k->f i≠f k:=by
 constructor
 ·exact fun h=>⟨fun i hi=>h i (by omega),fun i hi=>h k (by omega) i hi⟩
 ·rintro⟨h1,h2⟩ i hi j hj;by_cases e:i=k
  ·subst e;exact h2 j hj
  ·exact h1 i (by omega) j hj
theorem zGN{key:Nat->Lit}(hk:zDT key)(val:Nat->Value):∀k,Maps.size (putD key val k)<=k/\(Maps.size (putD key val k)=k↔zFw k key)
 | 0=>⟨Nat.le_refl _,fun _ i hi=>by omega,fun _=>rfl⟩
 | k+1=>by
  obtain⟨h1,h2⟩:=zGN hk val k;have e:Maps.size (putD key val (k+1))=if Maps.has (putD key val k) (key k)then Maps.size (putD key val k)else Maps.size (putD key val k)+1:=size_put (zCQ hk val k) _
  by_cases hh:Maps.has (putD key val k) (key k)=true
  ·rw[if_pos hh]at e;rw[e,zFQ];refine⟨by omega,fun h=>by omega,fun h=>?_⟩;obtain⟨i,hi,he⟩:=(zD6 hk val (key k) k).1 hh;exact absurd he (h.2 i hi)
  ·rw[if_neg hh]at e;rw[e,zFQ,<-h2];refine⟨by omega,fun h=>⟨by omega,fun i hi he=>hh ((zD6 hk val (key k) k).2 ⟨i,hi,he⟩)⟩,fun h=>by omega⟩
theorem zEI(n:Int)(w:World):Calls Tryz.prog 202 #[.int .i64 n] w fun e w'=>zG (zBt n 1 900000) e/\w'=w:=by
 by_cases h1:1<=n
 ·by_cases h2:n<=900000
  ·go_enter Tryz.func202,Tryz.ntmps202;go_wp2;go_ret;exact⟨zG.yes ⟨h1,h2⟩,rfl⟩
  ·go_enter Tryz.func202,Tryz.ntmps202;go_wp2;go_ret;exact⟨zG.no fun h=>by have:=h.2;omega,rfl⟩
 ·go_enter Tryz.func202,Tryz.ntmps202;go_wp2;go_ret;exact⟨zG.no fun h=>by have:=h.1;omega,rfl⟩
def Mid(a x b:Int):Prop:=a<x/\x<b
theorem zGw(a x b:Int)(w:World):Calls Tryz.prog 222 #[.int .i64 a,.int .i64 x,.int .i64 b] w fun e w'=>zG (Mid a x b) e/\w'=w:=by
 by_cases h1:a<x
 ·by_cases h2:x<b
  ·go_enter Tryz.func222,Tryz.ntmps222;go_wp2;go_ret;exact⟨zG.yes ⟨h1,h2⟩,rfl⟩
  ·go_enter Tryz.func222,Tryz.ntmps222;go_wp2;go_ret;exact⟨zG.no fun h=>by have:=h.2;omega,rfl⟩
 ·go_enter Tryz.func222,Tryz.ntmps222;go_wp2;go_ret;exact⟨zG.no fun h=>by have:=h.1;omega,rfl⟩
def zEN(f:Nat->qC):Nat->ByteArray
 | 0=>⟨#[]⟩
 | k+1=>(f k).name
def zQS(n:Nat)(f:Nat->qC):Prop:=n<=8/\∀i,i<n->yM (f i).name/\zDI (zEN f i) (f i).name
theorem zIo(v:Value)(n lo hi:Nat)(f:Nat->qC)(w:World)(h:yY w lo hi v n f) :
  Calls Tryz.prog 203 #[v] w fun e w'=>zG (zQS n f) e/\Below w.heap.size w w':=by
 have Hp:=zB h;obtain⟨m1,a,c,rfl,mc,-⟩:=id h;unfold maxLen at m1;clear h;by_cases hn:n<=8;rotate_left
 ·have iA:(8:Int)<(n:Int):=(by omega);go_enter Tryz.func203,Tryz.ntmps203;go_wp2;go_ret;exact⟨zG.no fun h=>hn h.1,Below.refl _ _⟩
 have iA:¬(8:Int)<(n:Int):=by omega
 go_enter Tryz.func203,Tryz.ntmps203;go_wp2
 go_loopw [3,11] (fun l i wr=>∃k:Nat,k<=n/\i = .int .i64 k/\l = .string (zEN f k)/\(∀j,j<k->yM (f j).name/\zDI (zEN f j) (f j).name)/\Below w.heap.size w wr) (fun _ i _=>n - (intOf i).toNat)
 case atStart=>exact⟨0,Nat.zero_le _,rfl,rfl,fun j hj=>absurd hj (Nat.not_lt_zero _),Below.refl _ _⟩
 case round=>
  obtain⟨k,hk,rfl,rfl,bA,hb⟩:=hrel;have cA:=zB bA;clear bA;by_cases eA:k<n;rotate_left
  ·obtain rfl:k=n:=(by omega);go_wp2;go_ret;exact⟨zG.yes ⟨hn,cA.out⟩,hb⟩
  have kA:(k:Int)<(n:Int):=(by omega);obtain⟨b,off,vd,rfl,aA⟩:=(Hp.out.zRJ hb).cells eA;obtain⟨-,ad,cd,rfl,-,-⟩:=id aA.zRX;have gA:=zC wr (.cells #[.string (f k).name,.int .i64 (f k).origin,.int .i64 (f k).zRT,.int .i64 (f k).rs,.int .i64 (f k).rb,.slice ad (f k).dn cd] 67);have lA:=zB (zi.zRL wr (.string (f k).name) (.int .i64 (f k).origin) (.int .i64 (f k).zRT) (.int .i64 (f k).rs) (.int .i64 (f k).rb) (.slice ad (f k).dn cd) 67);have fA:=zA hb gA;have q0:=aA.c0;have q1:=aA.c1;have q2:=aA.c2;have q3:=aA.c3;have q4:=aA.c4;have q5:=aA.c5;have jA:=aA.zRZ;obtain⟨⟨y0,y1⟩,-⟩:=lA.out;clear aA gA;go_wp2_with fail;clear q0 q1 q2 q3 q4 q5;refine(zDn (f k).name _ jA).mono ?_;rintro e wn ⟨⟨tn,rfl,dA⟩,rfl⟩;by_cases hA:yM (f k).name;rotate_left
  ·have Hn:=zB hA;obtain rfl:tn=false:=zQ dA hA;clear dA hA;go_wp2;go_ret;exact⟨zG.no fun h=>Hn.out (h.2 k eA).1,fA⟩
  have HA:=zB hA;obtain rfl:tn=true:=dA.2 hA;clear dA hA;by_cases hR:zDI (zEN f k) (f k).name
  ·have f1:=(zNZ (f k).name (zEN f k)).2 hR;have HR:=zB hR;clear hR;go_wp2;go_roundw
   case rel=>exact⟨k+1,by omega,by go_num,rfl,zo eA cA.out ⟨HA.out,HR.out⟩,fA⟩
   case measure=>simp[intOf];omega
  ·have f1:(Op.bytesLess (f k).name.toList (zEN f k).toList || (f k).name.toList == (zEN f k).toList)=true:=by
    cases hc:(Op.bytesLess (f k).name.toList (zEN f k).toList || (f k).name.toList == (zEN f k).toList)
    ·exact absurd ((zNZ _ _).1 hc) hR
    ·rfl
   have HR:=zB hR;clear hR;go_wp2;go_ret;exact⟨zG.no fun h=>HR.out (h.2 k eA).2,fA⟩
theorem zPs:laidOutB Tryz.prog=true:=by kernel_rfl
theorem zQc:300<=Tryz.prog.types.size+300 - 1/\1<=Tryz.prog.types.size:=by
 have h:decide (1<=Tryz.prog.types.size)=true:=by kernel_rfl
 have:=of_decide_eq_true h;omega
theorem zPP{k:Nat}(h:decide (k<Tryz.prog.types.size)=true):k<Tryz.prog.types.size:=of_decide_eq_true h
theorem zRF:Tryz.prog.underlying 9=some .string:=by kernel_rfl
theorem zRB:Tryz.prog.underlying 2=some (.int .i64):=by kernel_rfl
theorem zOn:Keyed Tryz.prog 9:=string_keyed zRF
theorem zQy:Keyed Tryz.prog 2:=int_keyed zRB
def zCq(s:ByteArray):Lit:=.string s.data.toList
theorem zJ6{s:ByteArray}(h:s.size<=maxLen):keyOf Tryz.prog 9 (.string s)=some (zCq s):=by simp[keyOf,mapKey,zCq,h]
theorem zO9{s t:ByteArray}(h:zCq s=zCq t):s=t:=by
 unfold zCq at h;injection h with h;cases s;cases t;simp only[ByteArray.mk.injEq];exact Array.toList_inj.1 h
theorem zLY(s:ByteArray):WideAt.IsKeyLit (zCq s):=trivial
def zJ8(x:Int):Lit:=.int .i64 x
theorem zNW{x:Int}(h:(Lit.int .i64 x).wf=true):keyOf Tryz.prog 2 (.int .i64 x)=some (zJ8 x):=keyOf_int_mk zRB h
theorem zLg{x y:Int}(h:zJ8 x=zJ8 y):x=y:=by unfold zJ8 at h;injection h
theorem zPg(x:Int):WideAt.IsKeyLit (zJ8 x):=trivial
theorem zQ3:Tryz.prog.underlying 266=some (.array 2 9):=by kernel_rfl
theorem zQs:Keyed Tryz.prog 266:=Keyed.of_law (deep_law_laid zPs (m:=5) (by decide) (zPP (by kernel_rfl)) (by kernel_rfl) (by kernel_rfl))
theorem zQQ{s t:ByteArray}(hs:s.size<=maxLen)(ht:t.size<=maxLen):∃l,keyOf Tryz.prog 266 (.agg #[.string s,.string t])=some l:=by
 obtain⟨m,hm⟩:∃m,Tryz.prog.types.size+1=m+2:=⟨Tryz.prog.types.size - 1,by have:=zQc;omega⟩;have hk:Tryz.prog.keyType 266=true:=by kernel_rfl
 have hc:Tryz.prog.cellsOf 266=2:=by kernel_rfl
 have h1:Tryz.prog.cellsOf 9=1:=by kernel_rfl
 unfold keyOf;simp only[zQ3];rw[if_pos (by simp[hk,Value.formed,hc]),hm];unfold Program.keyLits;simp only[zQ3,Value.cells];rw[if_pos (by rw[hc];rfl),show List.range 2 = [0,1] from rfl,List.mapM_cons,List.mapM_cons,List.mapM_nil];simp[h1,Program.keyLits,hs,ht]
theorem zQ0:Tryz.prog.underlying 61=some (.struct #[⟨"Slot",2,0,false, "", "",0⟩,⟨"Birth",2,1,false, "", "",8⟩]):=by kernel_rfl
theorem zQq:Keyed Tryz.prog 61:=Keyed.of_law (deep_law_laid zPs (m:=5) (by decide) (zPP (by kernel_rfl)) (by kernel_rfl) (by kernel_rfl))
theorem zQK{x y:Int}(hx:(Lit.int .i64 x).wf=true)(hy:(Lit.int .i64 y).wf=true):∃l,keyOf Tryz.prog 61 (.agg #[.int .i64 x,.int .i64 y])=some l:=by
 obtain⟨m,hm⟩:∃m,Tryz.prog.types.size+1=m+2:=⟨Tryz.prog.types.size - 1,by have:=zQc;omega⟩;have hk:Tryz.prog.keyType 61=true:=by kernel_rfl
 have hc:Tryz.prog.cellsOf 61=2:=by kernel_rfl
 have h1:Tryz.prog.cellsOf 2=1:=by kernel_rfl
 unfold keyOf;simp only[zQ0];rw[if_pos (by simp[hk,Value.formed,hc]),hm];unfold Program.keyLits;simp only[zQ0,Value.cells];rw[if_pos ⟨by rw[hc];rfl,by kernel_rfl⟩];simp[h1,Program.keyLits,hx,hy]
def zDO(vd:Value)(s:qC):Value:=.agg #[.string s.name,.int .i64 s.origin,.int .i64 s.zRT,.int .i64 s.rs,.int .i64 s.rb,vd]
def ye(vd:Value)(s:zm):Value:=.agg #[.int .i64 s.id,.string s.name,.string s.set,.int .i64 s.zRT,.int .i64 s.time,.int .i64 s.rs,.int .i64 s.rb,vd]
def zMB(w:World)(lo hi n:Nat)(f:Nat->qC)(vd:Nat->Value):Prop:=∀i,i<n->zU w lo hi (vd i) (f i).dn (f i).ds (f i).db
def zEX(w:World)(lo hi n:Nat)(f:Nat->zm)(vd:Nat->Value):Prop:=∀i,i<n->zU w lo hi (vd i) (f i).dn (f i).ds (f i).db
open Classical in
theorem yY.vals{w:World}{lo hi:Nat}{a:Option Addr}{n c:Nat}{f:Nat->qC}(h:yY w lo hi (.slice a n c) n f):∃vd:Nat->Value,zMB w lo hi n f vd/\∀i,i<n->∃b off,a=some ⟨b,off,none⟩/\zBO w b (off+i*6) lo hi (vd i) (f i):=by
 have hx:∀i,∃v,i<n->∃b off,a=some ⟨b,off,none⟩/\zBO w b (off+i*6) lo hi v (f i):=fun i=>by
  by_cases hi':i<n
  ·obtain⟨b,off,vd,ha,hs⟩:=h.cells hi';exact⟨vd,fun _=>⟨b,off,ha,hs⟩⟩
  ·exact⟨undef,fun h=>absurd h hi'⟩
 refine⟨fun i=>(hx i).choose,fun i hi'=>?_,fun i hi'=>(hx i).choose_spec hi'⟩;obtain⟨b,off,_,hs⟩:=(hx i).choose_spec hi';exact hs.zRX
open Classical in
theorem yB.vals{w:World}{lo hi:Nat}{a:Option Addr}{n c:Nat}{f:Nat->zm}(h:yB w lo hi (.slice a n c) n f):∃vd:Nat->Value,zEX w lo hi n f vd/\∀i,i<n->∃b off,a=some ⟨b,off,none⟩/\zAl w b (off+i*8) lo hi (vd i) (f i):=by
 have hx:∀i,∃v,i<n->∃b off,a=some ⟨b,off,none⟩/\zAl w b (off+i*8) lo hi v (f i):=fun i=>by
  by_cases hi':i<n
  ·obtain⟨b,off,vd,ha,hs⟩:=h.cells hi';exact⟨vd,fun _=>⟨b,off,ha,hs⟩⟩
  ·exact⟨undef,fun h=>absurd h hi'⟩
 refine⟨fun i=>(hx i).choose,fun i hi'=>?_,fun i hi'=>(hx i).choose_spec hi'⟩;obtain⟨b,off,_,hs⟩:=(hx i).choose_spec hi';exact hs.zRX
theorem zLe:Tryz.prog.underlying 177=some (.map 9 67):=by kernel_rfl
theorem zOk:Tryz.prog.underlying 218=some (.map 2 99):=by kernel_rfl
theorem zPJ:Tryz.prog.underlying 265=some (.map 266 2):=by kernel_rfl
def zBx(w:World)(W:zH)(M n:Nat)(vd:Nat->Value):Prop:=w.ownsMap Tryz.prog 9 zCG M n (putD (fun i=>zCq (W.zRS i).name) (fun i=>zDO (vd i) (W.zRS i)) n)
def zCW(w:World)(W:zH)(M n:Nat)(vd:Nat->Value):Prop:=w.ownsMap Tryz.prog 2 zCG M n (putD (fun i=>zJ8 (W.zRP i).id) (fun i=>ye (vd i) (W.zRP i)) n)
theorem zBx.zRJ{w w':World}{W:zH}{M n:Nat}{vd:Nat->Value}(h:zBx w W M n vd)(t:Below w.heap.size w w'):zBx w' W M n vd:=h.kept (yu t none) (by simp)
theorem zCW.zRJ{w w':World}{W:zH}{M n:Nat}{vd:Nat->Value}(h:zCW w W M n vd)(t:Below w.heap.size w w'):zCW w' W M n vd:=h.kept (yu t none) (by simp)
theorem zDz(v0 v1 v2 v3:Value)(lo hi:Nat)(W:zH)(w:World)(h:zl w lo hi v0 v1 v2 v3 W)(hn:W.sn<=8) :
  Calls Tryz.prog 129 #[zz v0 v1 v2 v3 W] w fun e w'=>∃vd,e = .returned (.map (some (w.heap.size+1)))/\zBx w' W (w.heap.size+1) W.sn vd/\zMB w lo hi W.sn W.zRS vd/\Below w.heap.size w w':=by
 have Hp:=zB h;obtain⟨m1,a,c,rfl,mc,-⟩:=id h.zRS;unfold maxLen at m1;obtain⟨vd,oA,nA⟩:=h.zRS.vals;have cB:=zB oA;have tA:=zB nA;clear h oA nA;have ha:=zC w (.cells #[v0,v1,.int .i64 W.time,.int .i64 W.next,.slice a W.sn c,v3] 37);have HB:=zB (zi.zRL w v0 v1 (.int .i64 W.time) (.int .i64 W.next) (.slice a W.sn c) v3 37);have jA:(w.alloc (.cells #[v0,v1,.int .i64 W.time,.int .i64 W.next,.slice a W.sn c,v3] 37)).heap.size=w.heap.size+1:=World.size_alloc _ _;have hm:=World.ownsMap_made (w.alloc (.cells #[v0,v1,.int .i64 W.time,.int .i64 W.next,.slice a W.sn c,v3] 37)) Tryz.prog 9 zCG;rw[jA]at hm;have HM:=zB hm;have rA:=zB (HB.out.zRJ (zC _ (.map #[] 0)));have mA:=zB (zA ha (zC _ (.map #[] 0)));have iB:=@run_makeMap Tryz.prog;obtain⟨⟨x0,-⟩,⟨x2,-⟩,⟨x4,-⟩,⟨x6,-⟩,⟨x8,-⟩,⟨vA,-⟩⟩:=rA.out;clear hm;go_enter Tryz.func129,Tryz.ntmps129;go_wp2;clear x0 x2 x4 x6 x8 vA ha
 go_loopw [10] (fun i wr=>∃k:Nat,k<=W.sn/\i = .int .i64 k/\zBx wr W (w.heap.size+1) k vd/\Below w.heap.size w wr/\w.heap.size+2<=wr.heap.size) (fun i _=>W.sn - (intOf i).toNat)
 case atStart=>exact⟨0,Nat.zero_le _,rfl,HM.out,mA.out,by rw[World.size_alloc,jA];omega⟩
 case round=>
  clear HM rA mA HB jA;obtain⟨k,hk,rfl,cA,hb,hz⟩:=hrel;have dA:=zB cA;clear cA;by_cases aB:k<W.sn
  ·have bB:(k:Int)<(W.sn:Int):=(by omega);obtain⟨b,off,rfl,pA⟩:=tA.out k aB;have bA:=pA.zRJ hb;obtain⟨-,ad,cd,kA,-,-⟩:=id bA.zRX;have dB:=zB kA;rw[kA]at bA;clear kA pA;have gA:=zC wr (.cells #[.string (W.zRS k).name,.int .i64 (W.zRS k).origin,.int .i64 (W.zRS k).zRT,.int .i64 (W.zRS k).rs,.int .i64 (W.zRS k).rb,.slice ad (W.zRS k).dn cd] 67);have sA:=zB (zi.zRL wr (.string (W.zRS k).name) (.int .i64 (W.zRS k).origin) (.int .i64 (W.zRS k).zRT) (.int .i64 (W.zRS k).rs) (.int .i64 (W.zRS k).rb) (.slice ad (W.zRS k).dn cd) 67);have lA:=zA hb gA;have q0:=bA.c0;have q1:=bA.c1;have q2:=bA.c2;have q3:=bA.c3;have q4:=bA.c4;have q5:=bA.c5;have iA:=zB (zJ6 bA.zRZ);obtain⟨⟨y0,y1⟩,⟨y2,y3⟩,⟨y4,y5⟩,⟨y6,y7⟩,⟨y8,y9⟩,⟨eB,fB⟩⟩:=sA.out;have eA:=zB (dA.out.zRJ gA);have gB:=gA.size;clear bA gA;go_wp2_with (first
    | (at_mapUpdate;refine wpList_mapUpdate_own _ rfl _ _ _ 177 rfl 9 67 zOn zLe zCG (w.heap.size+1) k _ rfl eA.out (by unfold maxLen;omega) _ _ _ rfl rfl iA.out _ [] (zBv _) ?_;intro w1 fA aA)
    | go_in)
   go_roundw
   case rel=>
    refine⟨k+1,by omega,by go_num,?_,lA.grown aA lA.size (fun j hj=>by cases hj;omega),by have:=aA.size;omega⟩;unfold zBx putD zDO;rw[dB.out];exact fA
   case measure=>simp[intOf];omega
  ·obtain rfl:k=W.sn:=(by omega);go_wp2;go_ret;exact⟨vd,rfl,dA.out,cB.out,hb⟩
def zNG(n:Nat)(f:Nat->zm):Prop:=∀i,i<n->(Lit.int .i64 (f i).id).wf=true
theorem zIh(v0 v1 v2 v3:Value)(lo hi:Nat)(W:zH)(w:World)(h:zl w lo hi v0 v1 v2 v3 W)(hn:W.pn<=20)(tA:zNG W.pn W.zRP) :
  Calls Tryz.prog 179 #[zz v0 v1 v2 v3 W] w fun e w'=>∃vd,e = .returned (.map (some (w.heap.size+1)))/\zCW w' W (w.heap.size+1) W.pn vd/\zEX w lo hi W.pn W.zRP vd/\Below w.heap.size w w':=by
 have Hp:=zB h;have vA:=zB tA;obtain⟨m1,a,c,rfl,mc,-⟩:=id h.zRP;unfold maxLen at m1;obtain⟨vd,oA,nA⟩:=h.zRP.vals;have eB:=zB oA;have bB:=zB nA;clear h oA nA tA;have ha:=zC w (.cells #[v0,v1,.int .i64 W.time,.int .i64 W.next,v2,.slice a W.pn c] 37);have HB:=zB (zi.zRL w v0 v1 (.int .i64 W.time) (.int .i64 W.next) v2 (.slice a W.pn c) 37);have jA:(w.alloc (.cells #[v0,v1,.int .i64 W.time,.int .i64 W.next,v2,.slice a W.pn c] 37)).heap.size=w.heap.size+1:=World.size_alloc _ _;have hm:=World.ownsMap_made (w.alloc (.cells #[v0,v1,.int .i64 W.time,.int .i64 W.next,v2,.slice a W.pn c] 37)) Tryz.prog 2 zCG;rw[jA]at hm;have HM:=zB hm;have rA:=zB (HB.out.zRJ (zC _ (.map #[] 0)));have mA:=zB (zA ha (zC _ (.map #[] 0)));have iB:=@run_makeMap Tryz.prog;obtain⟨⟨x0,-⟩,⟨x2,-⟩,⟨x4,-⟩,⟨x6,-⟩,⟨x8,-⟩,⟨cB,-⟩⟩:=rA.out;clear hm;go_enter Tryz.func179,Tryz.ntmps179;go_wp2;clear x0 x2 x4 x6 x8 cB ha
 go_loopw [10] (fun i wr=>∃k:Nat,k<=W.pn/\i = .int .i64 k/\zCW wr W (w.heap.size+1) k vd/\Below w.heap.size w wr/\w.heap.size+2<=wr.heap.size) (fun i _=>W.pn - (intOf i).toNat)
 case atStart=>exact⟨0,Nat.zero_le _,rfl,HM.out,mA.out,by rw[World.size_alloc,jA];omega⟩
 case round=>
  clear HM rA mA HB jA;obtain⟨k,hk,rfl,cA,hb,hz⟩:=hrel;have dA:=zB cA;clear cA;by_cases sA:k<W.pn
  ·have dB:(k:Int)<(W.pn:Int):=(by omega);obtain⟨b,off,rfl,pA⟩:=bB.out k sA;have aA:=pA.zRJ hb;obtain⟨-,ad,cd,kA,-,-⟩:=id aA.zRX;have fB:=zB kA;rw[kA]at aA;clear kA pA;have gA:=zC wr (.cells #[.int .i64 (W.zRP k).id,.string (W.zRP k).name,.string (W.zRP k).set,.int .i64 (W.zRP k).zRT,.int .i64 (W.zRP k).time,.int .i64 (W.zRP k).rs,.int .i64 (W.zRP k).rb,.slice ad (W.zRP k).dn cd] 99);have aB:=zB (zCH.zRL wr (.int .i64 (W.zRP k).id) (.string (W.zRP k).name) (.string (W.zRP k).set) (.int .i64 (W.zRP k).zRT) (.int .i64 (W.zRP k).time) (.int .i64 (W.zRP k).rs) (.int .i64 (W.zRP k).rb) (.slice ad (W.zRP k).dn cd) 99);have lA:=zA hb gA;have q0:=aA.c0;have q1:=aA.c1;have q2:=aA.c2;have q3:=aA.c3;have q4:=aA.c4;have q5:=aA.c5;have q6:=aA.c6;have q7:=aA.c7;have iA:=zB (zNW (vA.out k sA));obtain⟨⟨⟨y0,-⟩,⟨y1,-⟩,⟨y2,-⟩,⟨y3,-⟩⟩,⟨y4,-⟩,⟨y5,-⟩,⟨y6,-⟩,⟨y7,-⟩⟩:=aB.out;have eA:=zB (dA.out.zRJ gA);have gB:=gA.size;clear aA gA;go_wp2_with (first
    | (at_mapUpdate;refine wpList_mapUpdate_own _ rfl _ _ _ 218 rfl 2 99 zQy zOk zCG (w.heap.size+1) k _ rfl eA.out (by unfold maxLen;omega) _ _ _ rfl rfl iA.out _ [] (zBv _) ?_;intro w1 fA bA)
    | go_in)
   go_roundw
   case rel=>
    refine⟨k+1,by omega,by go_num,?_,lA.grown bA lA.size (fun j hj=>by cases hj;omega),by have:=bA.size;omega⟩;unfold zCW putD ye;rw[fB.out];exact fA
   case measure=>simp[intOf];omega
  ·obtain rfl:k=W.pn:=(by omega);go_wp2;go_ret;exact⟨vd,rfl,dA.out,eB.out,hb⟩
def zCo(n:Nat)(f:Nat->zm):Prop:=∀i,i<n->∀k,k<i->¬((f k).set=(f i).set/\(f k).name=(f i).name)
theorem zCo.iff{n:Nat}{f:Nat->zm}{key:Nat->Lit}(hk:∀i,i<n->keyOf Tryz.prog 266 (.agg #[.string (f i).set,.string (f i).name])=some (key i)):zFw n key↔zCo n f:=by
 constructor
 ·intro h i hi k aA e;refine h i hi k aA ?_;have h1:=hk i hi;have h2:=hk k (by omega);rw[e.1,e.2,h1]at h2;exact(Option.some.inj h2).symm
 ·intro h i hi k aA e;have h1:=hk i hi;have h2:=hk k (by omega);rw[e]at h2;have:=zQs.inj h2 h1;simp only[Value.agg.injEq,Array.mk.injEq,List.cons.injEq,Value.string.injEq,and_true]at this;exact h i hi k aA this
theorem zHq(v:Value)(n lo hi:Nat)(f:Nat->zm)(w:World)(h:yB w lo hi v n f)(hn:n<=20) :
  Calls Tryz.prog 223 #[v] w fun e w'=>zG (zCo n f) e/\Below w.heap.size w w':=by
 have Hp:=zB h;obtain⟨m1,a,c,rfl,mc,-⟩:=id h;unfold maxLen at m1;have gA:∀i,∃l,WideAt.IsKeyLit l/\(i<n->keyOf Tryz.prog 266 (.agg #[.string (f i).set,.string (f i).name])=some l):=fun i=>by
  by_cases hi':i<n
  ·obtain⟨b,off,vd,_,hs⟩:=h.cells hi';obtain⟨l,hl⟩:=zQQ hs.zRZ.2 hs.zRZ.1;exact⟨l,zQs.key hl,fun _=>hl⟩
  ·exact⟨.string [],trivial,fun h=>absurd h hi'⟩
 obtain⟨key,nA,oA⟩:∃key:Nat->Lit,zDT key/\∀i,i<n->keyOf Tryz.prog 266 (.agg #[.string (f i).set,.string (f i).name])=some (key i):=⟨fun i=>(gA i).choose,fun i=>(gA i).choose_spec.1,fun i=>(gA i).choose_spec.2⟩;have pA:=zB nA;have lA:=zB oA;clear h gA nA oA;have HM:=zB (World.ownsMap_made w Tryz.prog 266 zCG);have aB:=@run_makeMap Tryz.prog;go_enter Tryz.func223,Tryz.ntmps223;go_wp2
 go_loopw [9] (fun i wr=>∃k:Nat,k<=n/\i = .int .i64 k/\wr.ownsMap Tryz.prog 266 zCG w.heap.size k (putD key (fun i=>.int .i64 (f i).id) k)/\Below w.heap.size w wr/\w.heap.size+1<=wr.heap.size) (fun i _=>n - (intOf i).toNat)
 case atStart=>exact⟨0,Nat.zero_le _,rfl,HM.out,zC _ _,by rw[World.size_alloc];omega⟩
 case round=>
  clear HM;obtain⟨k,hk,rfl,cA,hb,hz⟩:=hrel;have dA:=zB cA;clear cA;by_cases mA:k<n
  ·have tA:(k:Int)<(n:Int):=(by omega);obtain⟨b,off,vd,rfl,bA⟩:=(Hp.out.zRJ hb).cells mA;obtain⟨-,ad,cd,rfl,-,-⟩:=id bA.zRX;have iA:=zC wr (.cells #[.int .i64 (f k).id,.string (f k).name,.string (f k).set,.int .i64 (f k).zRT,.int .i64 (f k).time,.int .i64 (f k).rs,.int .i64 (f k).rb,.slice ad (f k).dn cd] 99);have rA:=zB (zCH.zRL wr (.int .i64 (f k).id) (.string (f k).name) (.string (f k).set) (.int .i64 (f k).zRT) (.int .i64 (f k).time) (.int .i64 (f k).rs) (.int .i64 (f k).rb) (.slice ad (f k).dn cd) 99);have kA:=zA hb iA;have q0:=bA.c0;have q1:=bA.c1;have q2:=bA.c2;have q3:=bA.c3;have q4:=bA.c4;have q5:=bA.c5;have q6:=bA.c6;have q7:=bA.c7;have jA:=zB (lA.out k mA);obtain⟨⟨⟨y0,-⟩,⟨y1,-⟩,⟨y2,-⟩,⟨y3,-⟩⟩,⟨y4,-⟩,⟨y5,-⟩,⟨y6,-⟩,⟨y7,-⟩⟩:=rA.out;have eA:=zB (dA.out.kept (yu iA none) (by simp));have vA:=iA.size;clear bA iA;go_wp2_with (first
    | (at_mapUpdate;refine wpList_mapUpdate_own _ rfl _ _ _ 265 rfl 266 2 zQs zPJ zCG w.heap.size k _ rfl eA.out (by unfold maxLen;omega) _ _ _ rfl rfl jA.out _ [] (zBv _) ?_;intro w1 fA aA)
    | go_in)
   go_roundw
   case rel=>exact⟨k+1,by omega,by go_num,fA,kA.grown aA kA.size (fun j hj=>by cases hj;omega),by have:=aA.size;omega⟩
   case measure=>simp[intOf];omega
  ·obtain rfl:k=n:=(by omega);have sA:=zB (zGN pA.out (fun i=>.int .i64 (f i).id) k);have HN:=zB (zCo.iff (f:=f) lA.out);go_wp2_with (first
    | (at_len;refine wpList_len_own _ rfl _ 265 rfl 266 2 zPJ zCG w.heap.size k _ rfl dA.out ?_)
    | go_in)
   go_ret;refine⟨⟨_,rfl,?_⟩,hb⟩;have h1:=sA.out.2;have h2:=HN.out;simp only[beq_iff_eq,Int.natCast_inj];exact h1.trans h2
def zEK(f:Nat->zm):Nat->zm
 | 0=>yP
 | k+1=>f k
def zHj(W:zH)(i:Nat):Prop:=zAR W (W.zRP i).set/\yM (W.zRP i).name/\(W.zRP i).zRT<(W.zRP i).id/\Mid (zEK W.zRP i).id (W.zRP i).id W.next/\Mid (zEK W.zRP i).time (W.zRP i).time W.time
def zOw(W:zH):Prop:=W.pn<=20/\(∀i,i<W.pn->zHj W i)/\zCo W.pn W.zRP
theorem zFn(w:World):(zeroValue 67).run Tryz.prog w = .ok (.agg #[.string ⟨#[]⟩,.int .i64 0,.int .i64 0,.int .i64 0,.int .i64 0,.slice none 0 0]) w:=by kernel_rfl
theorem zJH{W:zH}{vd:Nat->Value}(hd:∀i,i<W.sn->∃a n c,vd i = .slice a n c)(x:ByteArray):∃(s0:ByteArray) (i1 i2 i3 i4:Int) (a:Option Addr) (n c:Nat),(putD (fun i=>zCq (W.zRS i).name) (fun i=>zDO (vd i) (W.zRS i)) W.sn).atKey (zCq x) (.held (.agg #[.string ⟨#[]⟩,.int .i64 0,.int .i64 0,.int .i64 0,.int .i64 0,.slice none 0 0])) = .held (.agg #[.string s0,.int .i64 i1,.int .i64 i2,.int .i64 i3,.int .i64 i4,.slice a n c]):=by
 have hk:zDT (fun i=>zCq (W.zRS i).name):=fun i=>zLY _
 have:∀k,k<=W.sn->∃(s0:ByteArray) (i1 i2 i3 i4:Int) (a:Option Addr) (n c:Nat),(putD (fun i=>zCq (W.zRS i).name) (fun i=>zDO (vd i) (W.zRS i)) k).atKey (zCq x) (.held (.agg #[.string ⟨#[]⟩,.int .i64 0,.int .i64 0,.int .i64 0,.int .i64 0,.slice none 0 0])) = .held (.agg #[.string s0,.int .i64 i1,.int .i64 i2,.int .i64 i3,.int .i64 i4,.slice a n c]):=by
  intro k
  induction k with
  | zero=>exact fun _=>⟨⟨#[]⟩,0,0,0,0,none,0,0,zGh hk _ (fun i hi=>absurd hi (Nat.not_lt_zero _)) _⟩
  | succ k ih=>
   intro aA;by_cases e:zCq (W.zRS k).name=zCq x
   ·obtain⟨a,n,c,hv⟩:=hd k (by omega);refine⟨(W.zRS k).name,(W.zRS k).origin,(W.zRS k).zRT,(W.zRS k).rs,(W.zRS k).rb,a,n,c,?_⟩;rw[<-e];refine(atKey_put_same (zCQ hk _ k).isMap (hk k) _ _).trans ?_;show DataW.held (zDO (vd k) (W.zRS k))=_;rw[hv];rfl
   ·obtain⟨s0,i1,i2,i3,i4,a,n,c,h⟩:=ih (by omega);exact⟨s0,i1,i2,i3,i4,a,n,c,(atKey_put_other (Ne.symm e) _ _).trans h⟩
 exact this W.sn (Nat.le_refl _)
theorem zLq{W:zH}{vd:Nat->Value}(x:ByteArray):Maps.has (putD (fun i=>zCq (W.zRS i).name) (fun i=>zDO (vd i) (W.zRS i)) W.sn) (zCq x)=true↔zAR W x:=by
 rw[zD6 (fun i=>zLY _)];constructor
 ·rintro⟨i,hi,e⟩;exact⟨i,hi,zO9 e⟩
 ·rintro⟨i,hi,e⟩;exact⟨i,hi,by rw[e]⟩
abbrev put8(w:World)(b:Nat)(u0 u1 u2 u3 u4 u5 u6 u7:Value):World:=(((((((w.setCell ⟨b,0,none⟩ u0).setCell ⟨b,1,none⟩ u1).setCell ⟨b,2,none⟩ u2).setCell ⟨b,3,none⟩ u3).setCell ⟨b,4,none⟩ u4).setCell ⟨b,5,none⟩ u5).setCell ⟨b,6,none⟩ u6).setCell ⟨b,7,none⟩ u7
theorem zCH.put{w:World}{b:Nat}{v0 v1 v2 v3 v4 v5 v6 v7:Value}(h:zCH w b v0 v1 v2 v3 v4 v5 v6 v7)(u0 u1 u2 u3 u4 u5 u6 u7:Value):zCH (put8 w b u0 u1 u2 u3 u4 u5 u6 u7) b u0 u1 u2 u3 u4 u5 u6 u7:=by
 obtain⟨⟨h0,h1,h2,h3⟩,h4,h5,h6,h7⟩:=h;refine⟨⟨?_,?_,?_,?_⟩,?_,?_,?_,?_⟩
 ·exact(((((((h0.set _).zRK _ (Or.inr (by omega))).zRK _ (Or.inr (by omega))).zRK _ (Or.inr (by omega))).zRK _ (Or.inr (by omega))).zRK _ (Or.inr (by omega))).zRK _ (Or.inr (by omega))).zRK _ (Or.inr (by omega))
 ·exact(((((((h1.zRK _ (Or.inr (by omega))).set _).zRK _ (Or.inr (by omega))).zRK _ (Or.inr (by omega))).zRK _ (Or.inr (by omega))).zRK _ (Or.inr (by omega))).zRK _ (Or.inr (by omega))).zRK _ (Or.inr (by omega))
 ·exact(((((((h2.zRK _ (Or.inr (by omega))).zRK _ (Or.inr (by omega))).set _).zRK _ (Or.inr (by omega))).zRK _ (Or.inr (by omega))).zRK _ (Or.inr (by omega))).zRK _ (Or.inr (by omega))).zRK _ (Or.inr (by omega))
 ·exact(((((((h3.zRK _ (Or.inr (by omega))).zRK _ (Or.inr (by omega))).zRK _ (Or.inr (by omega))).set _).zRK _ (Or.inr (by omega))).zRK _ (Or.inr (by omega))).zRK _ (Or.inr (by omega))).zRK _ (Or.inr (by omega))
 ·exact(((((((h4.zRK _ (Or.inr (by omega))).zRK _ (Or.inr (by omega))).zRK _ (Or.inr (by omega))).zRK _ (Or.inr (by omega))).set _).zRK _ (Or.inr (by omega))).zRK _ (Or.inr (by omega))).zRK _ (Or.inr (by omega))
 ·exact(((((((h5.zRK _ (Or.inr (by omega))).zRK _ (Or.inr (by omega))).zRK _ (Or.inr (by omega))).zRK _ (Or.inr (by omega))).zRK _ (Or.inr (by omega))).set _).zRK _ (Or.inr (by omega))).zRK _ (Or.inr (by omega))
 ·exact(((((((h6.zRK _ (Or.inr (by omega))).zRK _ (Or.inr (by omega))).zRK _ (Or.inr (by omega))).zRK _ (Or.inr (by omega))).zRK _ (Or.inr (by omega))).zRK _ (Or.inr (by omega))).set _).zRK _ (Or.inr (by omega))
 ·exact(((((((h7.zRK _ (Or.inr (by omega))).zRK _ (Or.inr (by omega))).zRK _ (Or.inr (by omega))).zRK _ (Or.inr (by omega))).zRK _ (Or.inr (by omega))).zRK _ (Or.inr (by omega))).zRK _ (Or.inr (by omega))).set _
theorem zF.put8(w:World)(b:Nat)(u0 u1 u2 u3 u4 u5 u6 u7:Value):zF (fun k=>k=b) w (put8 w b u0 u1 u2 u3 u4 u5 u6 u7):=
 (((((((zF.put w b 0 u0).trans (zF.put _ b 1 u1)).trans (zF.put _ b 2 u2)).trans (zF.put _ b 3 u3)).trans (zF.put _ b 4 u4)).trans (zF.put _ b 5 u5)).trans (zF.put _ b 6 u6)).trans (zF.put _ b 7 u7)
theorem zBx.put8{w:World}{W:zH}{M n b:Nat}{vd:Nat->Value}(h:zBx w W M n vd)(hb:M≠b)(u0 u1 u2 u3 u4 u5 u6 u7:Value):zBx (Go.Proofs.YtmgeglgboadfiaaGreatDoor.put8 w b u0 u1 u2 u3 u4 u5 u6 u7) W M n vd:=
 (((((((World.ownsMap.setCell h hb u0).setCell hb u1).setCell hb u2).setCell hb u3).setCell hb u4).setCell hb u5).setCell hb u6).setCell hb u7
theorem zML{B:Nat}{w w':World}(h:Below B w w'){b:Nat}(hb:B<=b)(u0 u1 u2 u3 u4 u5 u6 u7:Value):Below B w (put8 w' b u0 u1 u2 u3 u4 u5 u6 u7):=
 (((((((h.setCell hb u0).setCell hb u1).setCell hb u2).setCell hb u3).setCell hb u4).setCell hb u5).setCell hb u6).setCell hb u7
theorem zIe(v0 v1 v2 v3:Value)(lo hi:Nat)(W:zH)(w:World)(h:zl w lo hi v0 v1 v2 v3 W)(hs:W.sn<=8) :
  Calls Tryz.prog 204 #[zz v0 v1 v2 v3 W] w fun e w'=>zG (zOw W) e/\Below w.heap.size w w':=by
 have Hp:=zB h;obtain⟨m1,a,c,rfl,mc,-⟩:=id h.zRP;unfold maxLen at m1;clear h;have ha:=zC w (.cells #[v0,v1,.int .i64 W.time,.int .i64 W.next,v2,.slice a W.pn c] 37);have HB:=zB (zi.zRL w v0 v1 (.int .i64 W.time) (.int .i64 W.next) v2 (.slice a W.pn c) 37);obtain⟨⟨x0,-⟩,⟨x2,-⟩,⟨x4,-⟩,⟨x6,-⟩,⟨x8,-⟩,⟨gA,-⟩⟩:=HB.out;by_cases hn:W.pn<=20;rotate_left
 ·have tB:(20:Int)<(W.pn:Int):=(by omega);go_enter Tryz.func204,Tryz.ntmps204;go_wp2;go_ret;exact⟨zG.no fun h=>hn h.1,ha⟩
 have tB:¬(20:Int)<(W.pn:Int):=by omega
 go_enter Tryz.func204,Tryz.ntmps204;go_wp2_with fail;clear x0 x2 x4 x6 x8 gA;generalize w.alloc (.cells #[v0,v1,.int .i64 W.time,.int .i64 W.next,v2,.slice a W.pn c] 37)=W0 at ha HB ⊢;refine(zDz v0 v1 v2 _ lo hi W W0 (Hp.out.zRJ ha) hs).mono ?_;rintro e w1 ⟨vd,rfl,eA,oB,vA⟩;have mB:∀i,i<W.sn->∃a n c,vd i = .slice a n c:=fun i hi'=>by
  obtain⟨_,aa,cc,hv,_⟩:=oB i hi';exact⟨aa,_,cc,hv⟩
 have mA:=zB (zJH mB);have lA:=zB (zLq (W:=W) (vd:=vd));have rA:=zC w1 (.cells #[.int .i64 0,.string ⟨#[]⟩,.string ⟨#[]⟩,.int .i64 0,.int .i64 0,.int .i64 0,.int .i64 0,.slice none 0 0] 99);have aB:=zB ((HB.out.zRJ vA).zRJ rA);have fB:=zB (zCH.zRL w1 (.int .i64 0) (.string ⟨#[]⟩) (.string ⟨#[]⟩) (.int .i64 0) (.int .i64 0) (.int .i64 0) (.int .i64 0) (.slice none 0 0) 99);have bB:=zB (eA.zRJ rA);have lB:=zB (zA (zA ha vA) rA);have rB:W0.heap.size+1<w1.heap.size:=eA.lt;have pB:=zB (show w.heap.size<W0.heap.size+1 by have:=HB.out.1.lt;omega);clear eA oB mB vA rA ha HB;obtain⟨⟨x0,-⟩,⟨x2,-⟩,⟨x4,-⟩,⟨x6,-⟩,⟨x8,-⟩,⟨gA,-⟩⟩:=aB.out;go_wp2;clear x0 x2 x4 x6 x8 gA;obtain⟨L,hL⟩:∃L,L=w1.heap.size:=⟨_,rfl⟩;rw[<-hL]at fB rB ⊢;obtain⟨M,hM⟩:∃M,M=W0.heap.size+1:=⟨_,rfl⟩;rw[<-hM]at bB rB pB ⊢;have dC:w.heap.size<L:=by have:=pB.out;omega
 go_loopw [18] (fun i wr=>∃(k:Nat) (al:Option Addr) (nl cl:Nat),k<=W.pn/\i = .int .i64 k/\(∀j,j<k->zHj W j)/\zCH wr L (.int .i64 (zEK W.zRP k).id) (.string (zEK W.zRP k).name) (.string (zEK W.zRP k).set) (.int .i64 (zEK W.zRP k).zRT) (.int .i64 (zEK W.zRP k).time) (.int .i64 (zEK W.zRP k).rs) (.int .i64 (zEK W.zRP k).rb) (.slice al nl cl)/\zi wr w.heap.size v0 v1 (.int .i64 W.time) (.int .i64 W.next) v2 (.slice a W.pn c)/\zBx wr W M W.sn vd/\Below w.heap.size w wr) (fun i _=>W.pn - (intOf i).toNat)
 case atStart=>exact⟨0,none,0,0,Nat.zero_le _,rfl,fun j hj=>absurd hj (Nat.not_lt_zero _),fB.out,aB.out,bB.out,lB.out⟩
 case round=>
  clear fB aB bB lB hL hM;obtain⟨k,al,nl,cl,hk,rfl,oA,hV,hX,hM,hb⟩:=hrel;have nA:=zB oA;have HV:=zB hV;have HX:=zB hX;have HM:=zB hM;clear oA hV hX hM;obtain⟨⟨x0,-⟩,⟨x2,-⟩,⟨x4,-⟩,⟨x6,-⟩,⟨x8,-⟩,⟨gA,-⟩⟩:=HX.out;by_cases iA:k<W.pn
  ·have bC:(k:Int)<(W.pn:Int):=(by omega);obtain⟨b,off,eC,rfl,cA⟩:=(Hp.out.zRP.zRJ hb).cells iA;obtain⟨-,ad,cd,rfl,-,-⟩:=id cA.zRX;obtain⟨s0,i1,i2,i3,i4,sa,sn,sc,kB⟩:=mA.out (W.zRP k).set;have cB:=zB kB;have dA:=zB (zJ6 cA.zRZ.2);have cC:=cA.zRZ.1;clear kB;have sB:wr.heap.size≠L:=(by have:=HV.out.1.1.lt;omega);have kA:=zC wr (.cells #[.int .i64 (W.zRP k).id,.string (W.zRP k).name,.string (W.zRP k).set,.int .i64 (W.zRP k).zRT,.int .i64 (W.zRP k).time,.int .i64 (W.zRP k).rs,.int .i64 (W.zRP k).rb,.slice ad (W.zRP k).dn cd] 99);have jA:=zC (wr.alloc (.cells #[.int .i64 (W.zRP k).id,.string (W.zRP k).name,.string (W.zRP k).set,.int .i64 (W.zRP k).zRT,.int .i64 (W.zRP k).time,.int .i64 (W.zRP k).rs,.int .i64 (W.zRP k).rb,.slice ad (W.zRP k).dn cd] 99)) (.cells #[.string s0,.int .i64 i1,.int .i64 i2,.int .i64 i3,.int .i64 i4,.slice sa sn sc] 67);have iB:=zB (zCH.zRL wr (.int .i64 (W.zRP k).id) (.string (W.zRP k).name) (.string (W.zRP k).set) (.int .i64 (W.zRP k).zRT) (.int .i64 (W.zRP k).time) (.int .i64 (W.zRP k).rs) (.int .i64 (W.zRP k).rb) (.slice ad (W.zRP k).dn cd) 99);have tA:=zB (HM.out.zRJ kA);have pA:=zB (iB.out.zRJ jA);have gB:=zB ((HV.out.zRJ kA).zRJ jA);have dB:=zB ((HX.out.zRJ kA).zRJ jA);have jB:=zB ((HM.out.zRJ kA).zRJ jA);have fA:=zA (zA hb kA) jA;have eB:((wr.alloc (.cells #[.int .i64 (W.zRP k).id,.string (W.zRP k).name,.string (W.zRP k).set,.int .i64 (W.zRP k).zRT,.int .i64 (W.zRP k).time,.int .i64 (W.zRP k).rs,.int .i64 (W.zRP k).rb,.slice ad (W.zRP k).dn cd] 99)).alloc (.cells #[.string s0,.int .i64 i1,.int .i64 i2,.int .i64 i3,.int .i64 i4,.slice sa sn sc] 67)).heap.size=wr.heap.size+2:=(by rw[World.size_alloc,World.size_alloc]);have q0:=cA.c0;have q1:=cA.c1;have q2:=cA.c2;have q3:=cA.c3;have q4:=cA.c4;have q5:=cA.c5;have q6:=cA.c6;have q7:=cA.c7;obtain⟨⟨⟨y0,-⟩,⟨y1,-⟩,⟨y2,-⟩,⟨y3,-⟩⟩,⟨y4,-⟩,⟨y5,-⟩,⟨y6,-⟩,⟨y7,-⟩⟩:=iB.out;obtain⟨⟨⟨z0,-⟩,⟨z1,-⟩,⟨z2,-⟩,⟨z3,-⟩⟩,⟨z4,-⟩,⟨z5,-⟩,⟨z6,-⟩,⟨z7,-⟩⟩:=pA.out;clear cA;by_cases bA:zAR W (W.zRP k).set;rotate_left
   ·have Hc:=zB (show Maps.has (putD (fun i=>zCq (W.zRS i).name) (fun i=>zDO (vd i) (W.zRS i)) W.sn) (zCq (W.zRP k).set)=false by rw[Bool.eq_false_iff];exact fun h=>bA ((lA.out _).1 h));have Hn:=zB (show ¬zHj W k from fun h=>bA h.1);clear bA;go_wp2_with (first
     | (at_lookup;refine yz _ rfl _ _ 177 rfl 9 67 zOn zLe (zFn _) M W.sn _ rfl tA.out _ _ rfl dA.out _ cB.out false Hc.out ?_)
     | go_in)
    go_ret;exact⟨zG.no fun h=>Hn.out (h.2.1 k iA),fA⟩
   have sA:=zB bA;have Hc:=zB ((lA.out _).2 bA);clear bA;go_wp2_with (first
    | (at_lookup;refine yz _ rfl _ _ 177 rfl 9 67 zOn zLe (zFn _) M W.sn _ rfl tA.out _ _ rfl dA.out _ cB.out true Hc.out ?_)
    | fail)
   clear x0 x2 x4 x6 x8 gA y0 y1 y2 y3 y4 y5 y6 y7 z0 z1 z2 z3 z4 z5 z6 z7 q0 q1 q2 q3 q4 q5 q6 q7 iB tA HV HX HM hb kA jA dA cB Hc;generalize (wr.alloc (.cells #[.int .i64 (W.zRP k).id,.string (W.zRP k).name,.string (W.zRP k).set,.int .i64 (W.zRP k).zRT,.int .i64 (W.zRP k).time,.int .i64 (W.zRP k).rs,.int .i64 (W.zRP k).rb,.slice ad (W.zRP k).dn cd] 99)).alloc (.cells #[.string s0,.int .i64 i1,.int .i64 i2,.int .i64 i3,.int .i64 i4,.slice sa sn sc] 67)=W2 at pA gB dB jB fA eB ⊢;generalize wr.heap.size=V8 at pA sB ⊢;obtain⟨⟨x0,-⟩,⟨x2,-⟩,⟨x4,-⟩,⟨x6,-⟩,⟨x8,-⟩,⟨gA,-⟩⟩:=dB.out;obtain⟨⟨⟨z0,-⟩,⟨z1,-⟩,⟨z2,-⟩,⟨z3,-⟩⟩,⟨z4,-⟩,⟨z5,-⟩,⟨z6,-⟩,⟨z7,-⟩⟩:=pA.out;obtain⟨⟨⟨l0,m0⟩,⟨l1,n1⟩,⟨l2,n2⟩,⟨l3,n3⟩⟩,⟨l4,n4⟩,⟨l5,n5⟩,⟨l6,n6⟩,⟨l7,n7⟩⟩:=gB.out;refine(zDn (W.zRP k).name _ cC).mono ?_;rintro e wn ⟨⟨tn,rfl,aA⟩,rfl⟩;by_cases hA:yM (W.zRP k).name;rotate_left
   ·have Hn:=zB (show ¬zHj W k from fun h=>hA h.2.1);obtain rfl:tn=false:=zQ aA hA;clear aA hA;go_wp2;go_ret;exact⟨zG.no fun h=>Hn.out (h.2.1 k iA),fA⟩
   have HA:=zB hA;obtain rfl:tn=true:=aA.2 hA;clear aA hA;by_cases hg:(W.zRP k).id<=(W.zRP k).zRT
   ·have Hn:=zB (show ¬zHj W k from fun h=>by have:=h.2.2.1;omega);go_wp2;go_ret;exact⟨zG.no fun h=>Hn.out (h.2.1 k iA),fA⟩
   have Hg:=zB (show(W.zRP k).zRT<(W.zRP k).id by omega);go_wp2_with fail;clear hg;refine(zGw _ _ _ _).mono ?_;rintro e wn ⟨⟨tn,rfl,aA⟩,rfl⟩;by_cases hB:Mid (zEK W.zRP k).id (W.zRP k).id W.next;rotate_left
   ·have Hn:=zB (show ¬zHj W k from fun h=>hB h.2.2.2.1);obtain rfl:tn=false:=zQ aA hB;clear aA hB;go_wp2;go_ret;exact⟨zG.no fun h=>Hn.out (h.2.1 k iA),fA⟩
   have HB:=zB hB;obtain rfl:tn=true:=aA.2 hB;clear aA hB;go_wp2_with fail;refine(zGw _ _ _ _).mono ?_;rintro e wn ⟨⟨tn,rfl,aA⟩,rfl⟩;by_cases hB:Mid (zEK W.zRP k).time (W.zRP k).time W.time;rotate_left
   ·have Hn:=zB (show ¬zHj W k from fun h=>hB h.2.2.2.2);obtain rfl:tn=false:=zQ aA hB;clear aA hB;go_wp2;go_ret;exact⟨zG.no fun h=>Hn.out (h.2.1 k iA),fA⟩
   have aC:=zB hB;obtain rfl:tn=true:=aA.2 hB;clear aA hB;go_wp2;go_roundw
   case rel=>exact⟨k+1,_,_,_,by omega,by go_num,zo iA nA.out ⟨sA.out,HA.out,Hg.out,HB.out,aC.out⟩,gB.out.put _ _ _ _ _ _ _ _,dB.out.zRR (zF.put8 _ L _ _ _ _ _ _ _ _) (by omega),jB.out.put8 (by omega) _ _ _ _ _ _ _ _,zML fA (by omega) _ _ _ _ _ _ _ _⟩
   case measure=>simp[intOf];omega
  ·obtain rfl:k=W.pn:=(by omega);go_wp2_with fail;clear x0 x2 x4 x6 x8 gA;refine(zHq _ W.pn lo hi W.zRP _ (Hp.out.zRP.zRJ hb) hn).mono ?_;rintro e w6 ⟨⟨t6,rfl,nB⟩,vB⟩;have Ht:=zB nB;clear nB;go_wp2;go_ret;exact⟨⟨t6,rfl,Ht.out.trans ⟨fun hA=>⟨hn,nA.out,hA⟩,fun hA=>hA.2.2⟩⟩,zA hb vB⟩
def zCE(W:zH):Prop:=∀i,i<W.pn->∀j,j<i->(W.zRP j).id≠(W.zRP i).id
def zBb(w:World)(lo hi:Nat)(W:zH)(A:Nat):Prop:=∃M vd,zX w A 0 (.map (some M))/\zCW w W M W.pn vd/\zEX w lo hi W.pn W.zRP vd
abbrev zGJ(A:Nat):Value:=.func (.func 190) #[] #[.pointer (some ⟨A,0,none⟩)]
theorem zBb.zRJ{w w':World}{lo hi:Nat}{W:zH}{A:Nat}(h:zBb w lo hi W A)(t:Below w.heap.size w w'):zBb w' lo hi W A:=by
 obtain⟨M,vd,h1,h2,h3⟩:=h;exact⟨M,vd,h1.zRJ t,h2.zRJ t,fun i hi'=>(h3 i hi').zRJ t⟩
theorem zOT(w:World):(zeroValue 99).run Tryz.prog w = .ok (.agg #[.int .i64 0,.string ⟨#[]⟩,.string ⟨#[]⟩,.int .i64 0,.int .i64 0,.int .i64 0,.int .i64 0,.slice none 0 0]) w:=by kernel_rfl
theorem zMN{W:zH}{w:World}{lo hi:Nat}{vd:Nat->Value}(hD:zCE W)(hd:zEX w lo hi W.pn W.zRP vd)(x:Int):∃a c,(putD (fun i=>zJ8 (W.zRP i).id) (fun i=>ye (vd i) (W.zRP i)) W.pn).atKey (zJ8 x) (.held (.agg #[.int .i64 0,.string ⟨#[]⟩,.string ⟨#[]⟩,.int .i64 0,.int .i64 0,.int .i64 0,.int .i64 0,.slice none 0 0])) = .held (ye (.slice a (zN W x).dn c) (zN W x))/\zU w lo hi (.slice a (zN W x).dn c) (zN W x).dn (zN W x).ds (zN W x).db:=by
 have hk:zDT (fun i=>zJ8 (W.zRP i).id):=fun i=>zPg _
 by_cases hx:∃k,yC W x k
 ·obtain⟨k,aA⟩:=hx;rw[yA aA];have hp:=hd k aA.1;obtain⟨_,a,c,hv,_⟩:=id hp;refine⟨a,c,?_,by rw[<-hv];exact hp⟩;have:=zKx hk (fun i=>ye (vd i) (W.zRP i)) (.held (.agg #[.int .i64 0,.string ⟨#[]⟩,.string ⟨#[]⟩,.int .i64 0,.int .i64 0,.int .i64 0,.int .i64 0,.slice none 0 0])) W.pn k aA.1 (fun j h1 h2 e=>hD j h2 k h1 (zLg e).symm);rw[aA.2.1]at this;rw[this,hv]
 ·have e:zN W x=yP:=(by unfold zN;rw[dif_neg hx]);rw[e];refine⟨none,0,?_,⟨Nat.zero_le _,none,0,rfl,Nat.le_refl _,fun h=>absurd h (by simp[yP])⟩⟩;refine zGh hk _ (fun i hi' e2=>?_) _;exact hx (zGb (Nat.le_refl _) ⟨i,hi',zLg e2⟩)
theorem zBg(lo hi:Nat)(W:zH)(A:Nat)(x:Int)(w:World)(h:zBb w lo hi W A)(hD:zCE W)(hx:(Lit.int .i64 x).wf=true)(hn:W.pn<=20) :
  Calls Tryz.prog 190 #[.int .i64 x,.pointer (some ⟨A,0,none⟩)] w fun e w'=>∃a c,e = .returned (ye (.slice a (zN W x).dn c) (zN W x))/\zU w lo hi (.slice a (zN W x).dn c) (zN W x).dn (zN W x).ds (zN W x).db/\Below w.heap.size w w':=by
 obtain⟨M,vd,hc,hm,hd⟩:=h;obtain⟨a,c,dA,hp⟩:=zMN hD hd x;have eA:=zB dA;have fA:=zB hp;have aA:=zB (zNW hx);clear dA hp hd hx;unfold ye at eA ⊢;generalize zN W x=S at *;have bA:=zC w (.cells #[.int .i64 0,.string ⟨#[]⟩,.string ⟨#[]⟩,.int .i64 0,.int .i64 0,.int .i64 0,.int .i64 0,.slice none 0 0] 99);have HM:=zB (hm.zRJ bA);obtain⟨x0,-⟩:=hc.zRJ bA;have cA:=zC w (.cells #[.int .i64 S.id,.string S.name,.string S.set,.int .i64 S.zRT,.int .i64 S.time,.int .i64 S.rs,.int .i64 S.rb,.slice a S.dn c] 99);obtain⟨⟨⟨y0,-⟩,⟨y1,-⟩,⟨y2,-⟩,⟨y3,-⟩⟩,⟨y4,-⟩,⟨y5,-⟩,⟨y6,-⟩,⟨y7,-⟩⟩:=zCH.zRL w (.int .i64 S.id) (.string S.name) (.string S.set) (.int .i64 S.zRT) (.int .i64 S.time) (.int .i64 S.rs) (.int .i64 S.rb) (.slice a S.dn c) 99;clear hm hc bA;go_enter Tryz.func190,Tryz.ntmps190;go_wp2_with (first
  | (at_lookup;refine zFj _ rfl _ _ 218 rfl 2 99 zQy zOk (zOT _) M W.pn _ rfl HM.out _ _ rfl aA.out _ eA.out ?_)
  | go_in)
 refine bodyPost_ret (v:=.agg #[.int .i64 S.id,.string S.name,.string S.set,.int .i64 S.zRT,.int .i64 S.time,.int .i64 S.rs,.int .i64 S.rb,.slice a S.dn c]) (by simp[results,Tryz.results190,go_sem,y0,y1,y2,y3,y4,y5,y6,y7]) rfl ⟨a,c,rfl,fA.out,cA⟩
theorem zGx(v0 v1 v2 v3:Value)(lo hi:Nat)(W:zH)(w:World)(h:zl w lo hi v0 v1 v2 v3 W)(hn:W.pn<=20)(fA:zNG W.pn W.zRP) :
  Calls Tryz.prog 152 #[zz v0 v1 v2 v3 W] w fun e w'=>∃A,e = .returned (zGJ A)/\zBb w' lo hi W A/\Below w.heap.size w w':=by
 have Hp:=zB h;clear h;have gA:∀(fn:Fn) (first cA:Array Value) (w:World),(Instr.makeFunc fn first cA).run Tryz.prog w = .ok (.func fn first cA) w:=fun _ _ _ _=>rfl
 have ha:=zC w (.cells #[v0,v1,.int .i64 W.time,.int .i64 W.next,v2,v3] 37);obtain⟨⟨x0,-⟩,⟨x2,-⟩,⟨x4,-⟩,⟨x6,-⟩,⟨x8,-⟩,⟨eA,-⟩⟩:=zi.zRL w v0 v1 (.int .i64 W.time) (.int .i64 W.next) v2 v3 37;go_enter Tryz.func152,Tryz.ntmps152;go_wp2_with fail;clear x0 x2 x4 x6 x8 eA;generalize w.alloc (.cells #[v0,v1,.int .i64 W.time,.int .i64 W.next,v2,v3] 37)=W0 at ha ⊢;refine(zIh v0 v1 v2 v3 lo hi W W0 (Hp.out.zRJ ha) hn fA).mono ?_;rintro e w1 ⟨vd,rfl,hm,hd,bA⟩;have aA:=zC w1 (.cells #[.map (some (W0.heap.size+1))] 218);have hc:zX (w1.alloc (.cells #[.map (some (W0.heap.size+1))] 218)) w1.heap.size 0 (.map (some (W0.heap.size+1))):=zI (heap_alloc_new _ _) rfl;have HA:=zB (show zBb (w1.alloc (.cells #[.map (some (W0.heap.size+1))] 218)) lo hi W w1.heap.size from⟨_,vd,hc,hm.zRJ aA,fun i hi'=>((hd i hi').zRJ bA).zRJ aA⟩);have dA:=zA (zA ha bA) aA;clear hm hd bA aA hc;go_wp2;go_ret;exact⟨_,rfl,HA.out,dA⟩
end Go.Proofs.YtmgeglgboadfiaaGreatDoor
