/- The line of a set by Prev, as plain facts (no law is proved here). -/
import Derived.Test.YtmgeglgboadfiaaGreatDoorV6
import Derived.WideKeyPair
import Derived.DeepKeys4
set_option linter.unusedVariables false
set_option maxRecDepth 20000
set_option maxHeartbeats 4000000
namespace Go.Proofs.YtmgeglgboadfiaaGreatDoor
open Go.RowKit Go.Maps
open Classical in
noncomputable def yq(W:zH)(name:ByteArray):Nat->Nat
 | 0=>0
 | k+1=>yq W name k+(if (W.zRe k).set=name then 1 else 0)
theorem zID{W:zH}{name:ByteArray}{k:Nat}(h:(W.zRe k).set=name):yq W name (k+1)=yq W name k+1:=by simp[yq,h]
theorem zKz{W:zH}{name:ByteArray}{k:Nat}(h:¬(W.zRe k).set=name):yq W name (k+1)=yq W name k:=by simp[yq,h]
theorem zHZ(W:zH)(name:ByteArray):∀k,yq W name k<=k
 | 0=>Nat.le_refl _
 | k+1=>by
  have:=zHZ W name k;by_cases h:(W.zRe k).set=name
  ·rw[zID h];omega
  ·rw[zKz h];omega
inductive Steps (W:zH) (name:ByteArray) (start:Int):Nat->Int->Prop
 | zero:Steps W name start 0 start
 | next {n:Nat} {x:Int} {k:Nat}:Steps W name start n x->qs W x k->(W.zRe k).set=name->Steps W name start (n+1) (W.zRe k).zRh
def zGP(W:zH)(name:ByteArray)(x:Int):Prop:=∃k,qs W x k/\(W.zRe k).set=name
def zBc(W:zH)(name:ByteArray)(start origin:Int):Prop:=∃n e,Steps W name start n e/\¬zGP W name e/\n=yq W name W.pn/\e=origin
theorem Steps.det{W:zH}{name:ByteArray}{start:Int}:∀{n:Nat} {x y:Int},Steps W name start n x->Steps W name start n y->x=y
 | 0,_,_,.zero,.zero=>rfl
 | n+1,_,_,.next h hk _,.next h' hk' _=>by
  have e:=Steps.det h h';subst e;rw[qs.uniq hk hk']
theorem Steps.less{W:zH}{name:ByteArray}{start:Int}:∀{n m:Nat} {x:Int},Steps W name start m x->n<m->∃y,Steps W name start n y/\zGP W name y
 | n,0,_,_,h=>absurd h (Nat.not_lt_zero _)
 | n,m+1,_,.next (x:=x) h hk hs,hl=>by
  by_cases e:n=m
  ·subst e;exact⟨x,h,_,hk,hs⟩
  ·exact Steps.less h (by omega)
theorem Steps.end{W:zH}{name:ByteArray}{start:Int}{n m:Nat}{x y:Int}(h:Steps W name start n x)(hx:¬zGP W name x)(h':Steps W name start m y)(hy:¬zGP W name y):n=m/\x=y:=by
 have e:n=m:=by
  rcases Nat.lt_trichotomy n m with hl | hl | hl
  ·obtain⟨z,hz,ho⟩:=h'.less hl;rw[h.det hz]at hx;exact absurd ho hx
  ·exact hl
  ·obtain⟨z,hz,ho⟩:=h.less hl;rw[h'.det hz]at hy;exact absurd ho hy
 subst e;exact⟨rfl,h.det h'⟩
theorem zC1{W:zH}{name:ByteArray}{start origin:Int}{n:Nat}{x:Int}(h:Steps W name start n x)(hx:¬zGP W name x):zBc W name start origin↔n=yq W name W.pn/\x=origin:=by
 constructor
 ·rintro⟨m,y,hs,hy,h1,h2⟩;obtain⟨rfl,rfl⟩:=h.end hx hs hy;exact⟨h1,h2⟩
 ·rintro⟨h1,h2⟩;exact⟨n,x,h,hx,h1,h2⟩
theorem zHo{W:zH}{x r:Int}{k:Nat}(hk:qs W x k)(h:zFv W.pn (fun k=>(W.zRe k).id=x) r):r=(k:Int):=by
 rcases h with⟨j,hj,e,hm,rfl⟩ | ⟨hn,_⟩
 ·rw[qs.uniq hk ⟨hj,e,hm⟩]
 ·exact absurd hk.2.1 (hn k hk.1)
theorem ql.no{W:zH}{x:Int}(h:ql W x):∃k,qs W x k:=zGY (Nat.le_refl _) h
structure zCF (W:zH):Prop where
 ids:∀k,k<W.pn->1<=(W.zRe k).id/\(W.zRe k).id<900000
 zRh:∀k,k<W.pn->(W.zRe k).zRh=0\/ql W (W.zRe k).zRh
 less:∀k,k<W.pn->(W.zRe k).zRh<(W.zRe k).id
 zRg:∀k,k<W.sn->(W.zRg k).zRh=0\/ql W (W.zRg k).zRh
 zRo:∀k,k<W.sn->(W.zRg k).name.toList.isEmpty=false
theorem zCF.pos{W:zH}(h:zCF W):zCo W:=fun k hk=>(h.ids k hk).1
theorem ql.range{W:zH}(h:zCF W){x:Int}(hx:ql W x):1<=x/\x<900000:=by
 obtain⟨k,hk,rfl⟩:=hx;exact h.ids k hk
theorem zDK{s:ByteArray}(h:yI s):s.toList.isEmpty=false:=by
 have:=h.1;rw[Go.ByteArray.toList_eq];cases s with
 | mk d=>
  cases hd:d.toList with
  | nil=>
   have h0:d.size=0:=(by rw[<-Array.length_toList,hd];rfl);have h1:1<=d.size:=this;omega
  | cons a l=>simp
theorem zBI.prevOk{W:zH}(h:zBI W):zCF W where
 ids:=fun k hk=>⟨(h.2.2.2.2.2 k hk).1.1,by have:=(h.2.2.2.2.2 k hk).1.2.1;have:=h.2.1.2;omega⟩
 zRh:=fun k hk=>by
  by_cases e:(W.zRe k).zRh=0
  ·exact Or.inl e
  ·exact Or.inr ((h.2.2.2.2.2 k hk).2.1.2 e).2
 less:=fun k hk=>by
  by_cases e:(W.zRe k).zRh=0
  ·have:=(h.2.2.2.2.2 k hk).1.1;omega
  ·exact((h.2.2.2.2.2 k hk).2.1.2 e).1
 zRg:=fun k hk=>by
  by_cases e:(W.zRg k).zRh=0
  ·exact Or.inl e
  ·exact Or.inr ((h.2.2.2.2.1 k hk).2.2.1 e)
 zRo:=fun k hk=>zDK (h.2.2.2.2.1 k hk).1
structure zCw (W:zH) (name:ByteArray) (start:Int) (n:Nat) (x:Int):Prop where
 steps:Steps W name start n x
 there:x=0\/ql W x
 least:0<=x
 sum:(n:Int)+x<=900000
theorem zCw.start{W:zH}(h:zCF W)(name:ByteArray){x:Int}(hx:x=0\/ql W x):zCw W name x 0 x where
 steps:=.zero
 there:=hx
 least:=by rcases hx with rfl | hx;exact Int.le_refl _;have:=hx.range h;omega
 sum:=by rcases hx with rfl | hx;decide;have:=hx.range h;omega
theorem zCw.next{W:zH}(h:zCF W){name:ByteArray}{start:Int}{n:Nat}{x:Int}(hw:zCw W name start n x){k:Nat}(hk:qs W x k)(hs:(W.zRe k).set=name):zCw W name start (n+1) (W.zRe k).zRh where
 steps:=hw.steps.next hk hs
 there:=h.zRh k hk.1
 least:=by rcases h.zRh k hk.1 with e | e;omega;have:=e.range h;omega
 sum:=by have h1:=h.less k hk.1;have h2:=hw.sum;have h3:=hk.2.1;omega
theorem zKL{W:zH}(h:zCF W)(name:ByteArray):¬zGP W name 0:=fun ⟨k,hk,_⟩=>by
 have:=(h.ids k hk.1).1;have:=hk.2.1;omega
theorem zMV{W:zH}{name:ByteArray}{x:Int}{k:Nat}(hk:qs W x k)(hs:¬(W.zRe k).set=name):¬zGP W name x:=fun ⟨j,hj,e⟩=>hs (by rw[qs.uniq hk hj];exact e)
theorem zI9(v0 v1 v2 v3:Value)(lo hi:Nat)(W:zH)(w:World)(h:zk w lo hi v0 v1 v2 v3 W)(hP:zCF W)(hs:W.sn<=8)(hp:W.pn<=20) :
  Calls Tryz.prog 70 #[zz v0 v1 v2 v3 W] w fun e w'=>zG (∀i,i<W.sn->zBc W (W.zRg i).name (W.zRg i).zRh (W.zRg i).origin) e/\Below w.heap.size w w':=by
 have Hp:=zB h;have HP:=zB hP;obtain⟨m1,a,c,rfl,mc,-⟩:=id h.zRe;obtain⟨m2,a',c',rfl,rB,-⟩:=id h.zRg;unfold maxLen at m1 m2;clear h hP;have ha:=zC w (.cells #[v0,v1,.int .i64 W.time,.int .i64 W.next,.slice a' W.sn c',.slice a W.pn c] 37);have HB:=zB (zi.zRZ w v0 v1 (.int .i64 W.time) (.int .i64 W.next) (.slice a' W.sn c') (.slice a W.pn c) 37);go_enter Tryz.func70,Tryz.ntmps70;go_wp2
 go_loopw [3] (fun i wr=>∃k:Nat,k<=W.sn/\i = .int .i64 k/\(∀j,j<k->zBc W (W.zRg j).name (W.zRg j).zRh (W.zRg j).origin)/\zi wr w.heap.size v0 v1 (.int .i64 W.time) (.int .i64 W.next) (.slice a' W.sn c') (.slice a W.pn c)/\Below w.heap.size w wr) (fun i _=>W.sn - (intOf i).toNat)
 case atStart=>exact⟨0,Nat.zero_le _,rfl,fun j hj=>absurd hj (Nat.not_lt_zero _),HB.out,ha⟩
 case round=>
  obtain⟨k,hk,rfl,nA,hX,hb⟩:=hrel;have iA:=zB nA;have HX:=zB hX;clear nA hX ha HB;obtain⟨⟨x0,-⟩,⟨x2,-⟩,⟨x4,-⟩,⟨x6,-⟩,⟨x8,-⟩,⟨fA,-⟩⟩:=HX.out;by_cases cA:k<W.sn;rotate_left
  ·obtain rfl:k=W.sn:=(by omega);go_wp2;go_ret;exact⟨zG.yes iA.out,hb⟩
  have mB:(k:Int)<(W.sn:Int):=(by omega);obtain⟨b,off,vd,rfl,-⟩:=(Hp.out.zRg.zRX hb).cells cA;go_wp2;clear x0 x2 x4 x6 x8 fA
  go_loopw [5,6] (fun o i wr=>∃j:Nat,j<=W.pn/\i = .int .i64 j/\o = .int .i64 (yq W (W.zRg k).name j)/\zi wr w.heap.size v0 v1 (.int .i64 W.time) (.int .i64 W.next) (.slice (some ⟨b,off,none⟩) W.sn c') (.slice a W.pn c)/\Below w.heap.size w wr) (fun _ i _=>W.pn - (intOf i).toNat)
  case atStart=>exact⟨0,Nat.zero_le _,rfl,rfl,HX.out,hb⟩
  case round=>
   clear HX hb;obtain⟨j,hj,rfl,rfl,hX,hb⟩:=hrel;have HX:=zB hX;clear hX;obtain⟨⟨x0,-⟩,⟨x2,-⟩,⟨x4,-⟩,⟨x6,-⟩,⟨x8,-⟩,⟨fA,-⟩⟩:=HX.out;obtain⟨b',cB,fB,e',eA⟩:=(Hp.out.zRg.zRX hb).cells cA;cases e';have n0:=eA.c0;have n1:=eA.c1;have n2:=eA.c2;clear eA;have aC:=zHZ W (W.zRg k).name j;by_cases iB:j<W.pn
   ·have kB:(j:Int)<(W.pn:Int):=(by omega);obtain⟨b2,aA,oB,rfl,kA⟩:=(Hp.out.zRe.zRX hb).cells iB;have q2:=kA.c2;clear kA;have bC:((yq W (W.zRg k).name j:Nat):Int)<1000:=(by omega);by_cases he:(W.zRe j).set=(W.zRg k).name
    ·have f1:=zCt he;have H1:=zB (zID he);clear he;go_wp2
     go_quiet (fail)
     go_wp2;go_roundw
     case rel=>exact⟨j+1,by omega,by go_num,by rw[H1.out];go_num,HX.out.zRX (zg (Below.refl _ _) _),zg hb _⟩
     case measure=>simp[intOf];omega
    ·have f1:=zEP he;have H1:=zB (zKz he);clear he;go_wp2
     go_quiet (fail)
     go_wp2;go_roundw
     case rel=>exact⟨j+1,by omega,by go_num,by rw[H1.out],HX.out.zRX (zg (Below.refl _ _) _),zg hb _⟩
     case measure=>simp[intOf];omega
   ·obtain rfl:j=W.pn:=(by omega);go_wp2;clear x0 x2 x4 x6 x8 fA n0 n1 n2
    go_loopw [4,7] (fun i x wr=>∃(n:Nat) (y:Int),i = .int .i64 n/\x = .int .i64 y/\zCw W (W.zRg k).name (W.zRg k).zRh n y/\zi wr w.heap.size v0 v1 (.int .i64 W.time) (.int .i64 W.next) (.slice (some ⟨b,off,none⟩) W.sn c') (.slice a W.pn c)/\Below w.heap.size w wr) (fun _ x _=>(intOf x).toNat)
    case atStart=>exact⟨0,_,rfl,rfl,zCw.start HP.out _ (HP.out.zRg k cA),HX.out,hb⟩
    case round=>
     clear HX hb;obtain⟨n,y,rfl,rfl,hw,hX,hb⟩:=hrel;have HX:=zB hX;have Hw:=zB hw;have gB:=hw.sum;have sB:=hw.least;clear hX hw;obtain⟨⟨x0,-⟩,⟨x2,-⟩,⟨x4,-⟩,⟨x6,-⟩,⟨x8,-⟩,⟨fA,-⟩⟩:=HX.out;obtain⟨b',cB,fB,e',eA⟩:=(Hp.out.zRg.zRX hb).cells cA;cases e';have n0:=eA.c0;have n1:=eA.c1;clear eA;by_cases hz:y=0
     ·have jA:=zB (show ¬zGP W (W.zRg k).name y by rw[hz];exact zKL HP.out _);have sA:(y == 0)=true:=(by simp[hz]);have pA:decide (y=0)=true:=(by simp[hz]);have tA:(y != 0)=false:=(by simp[hz]);clear hz;go_wp2_with fail
      go_quiet (fail)
      clear sA pA tA;have dA:=zB HX.out;clear x0 x2 x4 x6 x8 fA;obtain⟨⟨e0,-⟩,⟨e2,-⟩,⟨e4,-⟩,⟨e6,-⟩,⟨e8,-⟩,⟨vA,-⟩⟩:=dA.out;by_cases h1:n=yq W (W.zRg k).name W.pn
      ·by_cases h2:y=(W.zRg k).origin
       ·have Hl:=zB ((zC1 (origin:=(W.zRg k).origin) Hw.out.steps jA.out).2 ⟨h1,h2⟩);have g1:((n:Int) == (yq W (W.zRg k).name W.pn:Int))=true:=(by simp[h1]);have g2:((n:Int) != (yq W (W.zRg k).name W.pn:Int))=false:=(by simp[h1]);have g3:decide ((n:Int)=(yq W (W.zRg k).name W.pn:Int))=true:=(by simp[h1]);have g4:(y == (W.zRg k).origin)=true:=(by simp[h2]);have g5:(y != (W.zRg k).origin)=false:=(by simp[h2]);have g6:decide (y=(W.zRg k).origin)=true:=(by simp[h2]);clear h1 h2;go_wp2;go_roundw
        case rel=>exact⟨k+1,by omega,by go_num,zo cA iA.out Hl.out,HX.out.zRX (zg (Below.refl _ _) _),zg hb _⟩
        case measure=>simp[intOf];omega
       ·have Hl:=zB (show ¬zBc W (W.zRg k).name (W.zRg k).zRh (W.zRg k).origin from fun h=>h2 ((zC1 Hw.out.steps jA.out).1 h).2);have g1:((n:Int) == (yq W (W.zRg k).name W.pn:Int))=true:=(by simp[h1]);have g2:((n:Int) != (yq W (W.zRg k).name W.pn:Int))=false:=(by simp[h1]);have g3:decide ((n:Int)=(yq W (W.zRg k).name W.pn:Int))=true:=(by simp[h1]);have g4:(y == (W.zRg k).origin)=false:=(by simp[h2]);have g5:(y != (W.zRg k).origin)=true:=(by simp[h2]);have g6:decide (y=(W.zRg k).origin)=false:=(by simp[h2]);clear h1 h2;go_wp2;go_ret;exact⟨zG.no fun hA=>Hl.out (hA k cA),zg hb _⟩
      ·have Hl:=zB (show ¬zBc W (W.zRg k).name (W.zRg k).zRh (W.zRg k).origin from fun h=>h1 ((zC1 Hw.out.steps jA.out).1 h).1);have h3:¬(n:Int)=(yq W (W.zRg k).name W.pn:Int):=(by omega);have g1:((n:Int) == (yq W (W.zRg k).name W.pn:Int))=false:=(by simp[h3]);have g2:((n:Int) != (yq W (W.zRg k).name W.pn:Int))=true:=(by simp[h3]);have g3:decide ((n:Int)=(yq W (W.zRg k).name W.pn:Int))=false:=(by simp[h3]);clear h1 h3;go_wp2;go_ret;exact⟨zG.no fun hA=>Hl.out (hA k cA),zg hb _⟩
     ·obtain⟨kk,rA⟩:=(Hw.out.there.resolve_left hz).no;have oA:=zB rA;have dB:kk<W.pn:=rA.1;have nB:(kk:Int)<(W.pn:Int):=(by omega);have bB:=(HP.out.ids kk dB).1;have aB:=rA.2.1;have vB:1<=y:=(by omega);have lA:=HP.out.less kk dB;have lB:=zB (show(W.zRe kk).zRh<y by omega);clear rA bB aB lA;have sA:(y == 0)=false:=(by simp[hz]);have pA:decide (y=0)=false:=(by simp[hz]);have tA:(y != 0)=true:=(by simp[hz]);clear hz;obtain⟨b2,aA,oB,rfl,kA⟩:=(Hp.out.zRe.zRX hb).cells dB;have q2:=kA.c2;have q3:=kA.c3;clear kA;by_cases he:(W.zRe kk).set=(W.zRg k).name
      ·have eB:=zB (Hw.out.next HP.out oA.out he);rw[he]at q2;clear he;go_wp2_with fail;go_region_held3 (fun w'=>w'.cell? ⟨w.heap.size,0,none⟩=some v0/\w'.cell? ⟨w.heap.size,1,none⟩=some v1/\w'.cell? ⟨w.heap.size,2,none⟩=some (.int .i64 W.time)/\w'.cell? ⟨w.heap.size,3,none⟩=some (.int .i64 W.next)/\w'.cell? ⟨w.heap.size,4,none⟩=some (.slice (some ⟨b,off,none⟩) W.sn c')/\w'.cell? ⟨w.heap.size,5,none⟩=some (.slice (some ⟨b2,aA,none⟩) W.pn c)/\w'.cell? ⟨b2,aA+kk*8+2,none⟩=some (.string (W.zRg k).name)/\w'.cell? ⟨b,off+k*6,none⟩=some (.string (W.zRg k).name)) (go_keep)
        (first | (go_at_call 49;refine(qI v0 v1 _ _ lo hi W y _ ?_).mono ?_;(exact(Hp.out.zRX hb).zRX (Below.refl _ _).drew);rintro e w6 ⟨r,rfl,hF,bA⟩;obtain rfl:=zHo oA.out hF;obtain⟨⟨y0,_⟩,⟨y1,_⟩,⟨y2,_⟩,⟨y3,_⟩,⟨y4,_⟩,⟨y5,_⟩⟩:=HX.out.zRX (zK bA);have z2:=(bA.cell (p:=⟨b2,aA+kk*8+2,none⟩) (zD q2)).trans q2;have z0:=(bA.cell (p:=⟨b,off+k*6,none⟩) (zD n0)).trans n0))
       have dA:=zB (HX.out.zRX (zK bA));have gA:=qd hb bA;have z3:=(bA.cell (p:=⟨b2,aA+kk*8+3,none⟩) (zD q3)).trans q3;have z1:=(bA.cell (p:=⟨b,off+k*6+1,none⟩) (zD n1)).trans n1;clear bA HX hb hF y0 y1 y2 y3 y4 y5 x0 x2 x4 x6 x8 fA q2 q3 n0 n1 sA pA tA;have tB:(n:Int)<1000000:=(by omega);obtain⟨⟨e0,-⟩,⟨e2,-⟩,⟨e4,-⟩,⟨e6,-⟩,⟨e8,-⟩,⟨vA,-⟩⟩:=dA.out;go_wp2_with fail;go_region_held3 (fun w'=>w'.cell? ⟨w.heap.size,0,none⟩=some v0/\w'.cell? ⟨w.heap.size,1,none⟩=some v1/\w'.cell? ⟨w.heap.size,2,none⟩=some (.int .i64 W.time)/\w'.cell? ⟨w.heap.size,3,none⟩=some (.int .i64 W.next)/\w'.cell? ⟨w.heap.size,4,none⟩=some (.slice (some ⟨b,off,none⟩) W.sn c')/\w'.cell? ⟨w.heap.size,5,none⟩=some (.slice (some ⟨b2,aA,none⟩) W.pn c)/\w'.cell? ⟨b2,aA+kk*8+3,none⟩=some (.int .i64 (W.zRe kk).zRh)) (go_keep)
        (first | (go_at_call 49;refine(qI v0 v1 _ _ lo hi W y _ ?_).mono ?_;(exact(Hp.out.zRX gA).zRX (Below.refl _ _).drew);rintro e w7 ⟨r,rfl,hF,mA⟩;obtain rfl:=zHo oA.out hF;obtain⟨⟨y0,_⟩,⟨y1,_⟩,⟨y2,_⟩,⟨y3,_⟩,⟨y4,_⟩,⟨y5,_⟩⟩:=dA.out.zRX (zK mA);have z4:=(mA.cell (p:=⟨b2,aA+kk*8+3,none⟩) (zD z3)).trans z3))
       have pB:=zB (dA.out.zRX (zK mA));have jB:=qd gA mA;clear mA dA gA hF y0 y1 y2 y3 y4 y5 e0 e2 e4 e6 e8 vA;go_wp2;go_roundw
       case rel=>exact⟨n+1,_,by go_num,rfl,eB.out,pB.out,jB⟩
       case measure=>simp[intOf];have:=lB.out;have:=eB.out.least;omega
      have jA:=zB (zMV oA.out he);have f1:=zEP he;clear he;go_wp2_with fail;go_region_held3 (fun w'=>w'.cell? ⟨w.heap.size,0,none⟩=some v0/\w'.cell? ⟨w.heap.size,1,none⟩=some v1/\w'.cell? ⟨w.heap.size,2,none⟩=some (.int .i64 W.time)/\w'.cell? ⟨w.heap.size,3,none⟩=some (.int .i64 W.next)/\w'.cell? ⟨w.heap.size,4,none⟩=some (.slice (some ⟨b,off,none⟩) W.sn c')/\w'.cell? ⟨w.heap.size,5,none⟩=some (.slice (some ⟨b2,aA,none⟩) W.pn c)/\w'.cell? ⟨b2,aA+kk*8+2,none⟩=some (.string (W.zRe kk).set)/\w'.cell? ⟨b,off+k*6,none⟩=some (.string (W.zRg k).name)) (go_keep)
       (first | (go_at_call 49;refine(qI v0 v1 _ _ lo hi W y _ ?_).mono ?_;(exact(Hp.out.zRX hb).zRX (Below.refl _ _).drew);rintro e w6 ⟨r,rfl,hF,bA⟩;obtain rfl:=zHo oA.out hF;obtain⟨⟨y0,_⟩,⟨y1,_⟩,⟨y2,_⟩,⟨y3,_⟩,⟨y4,_⟩,⟨y5,_⟩⟩:=HX.out.zRX (zK bA);have z2:=(bA.cell (p:=⟨b2,aA+kk*8+2,none⟩) (zD q2)).trans q2;have z0:=(bA.cell (p:=⟨b,off+k*6,none⟩) (zD n0)).trans n0))
      have dA:=zB (HX.out.zRX (zK bA));have gA:=qd hb bA;have z3:=(bA.cell (p:=⟨b2,aA+kk*8+3,none⟩) (zD q3)).trans q3;have z1:=(bA.cell (p:=⟨b,off+k*6+1,none⟩) (zD n1)).trans n1;clear bA HX hb hF y0 y1 y2 y3 y4 y5 x0 x2 x4 x6 x8 fA q2 q3 n0 n1 sA pA tA;clear f1;obtain⟨⟨e0,-⟩,⟨e2,-⟩,⟨e4,-⟩,⟨e6,-⟩,⟨e8,-⟩,⟨vA,-⟩⟩:=dA.out;by_cases h1:n=yq W (W.zRg k).name W.pn
      ·by_cases h2:y=(W.zRg k).origin
       ·have Hl:=zB ((zC1 (origin:=(W.zRg k).origin) Hw.out.steps jA.out).2 ⟨h1,h2⟩);have g1:((n:Int) == (yq W (W.zRg k).name W.pn:Int))=true:=(by simp[h1]);have g2:((n:Int) != (yq W (W.zRg k).name W.pn:Int))=false:=(by simp[h1]);have g3:decide ((n:Int)=(yq W (W.zRg k).name W.pn:Int))=true:=(by simp[h1]);have g4:(y == (W.zRg k).origin)=true:=(by simp[h2]);have g5:(y != (W.zRg k).origin)=false:=(by simp[h2]);have g6:decide (y=(W.zRg k).origin)=true:=(by simp[h2]);clear h1 h2;go_wp2;go_roundw
        case rel=>exact⟨k+1,by omega,by go_num,zo cA iA.out Hl.out,dA.out,gA⟩
        case measure=>simp[intOf];omega
       ·have Hl:=zB (show ¬zBc W (W.zRg k).name (W.zRg k).zRh (W.zRg k).origin from fun h=>h2 ((zC1 Hw.out.steps jA.out).1 h).2);have g1:((n:Int) == (yq W (W.zRg k).name W.pn:Int))=true:=(by simp[h1]);have g2:((n:Int) != (yq W (W.zRg k).name W.pn:Int))=false:=(by simp[h1]);have g3:decide ((n:Int)=(yq W (W.zRg k).name W.pn:Int))=true:=(by simp[h1]);have g4:(y == (W.zRg k).origin)=false:=(by simp[h2]);have g5:(y != (W.zRg k).origin)=true:=(by simp[h2]);have g6:decide (y=(W.zRg k).origin)=false:=(by simp[h2]);clear h1 h2;go_wp2;go_ret;exact⟨zG.no fun hA=>Hl.out (hA k cA),gA⟩
      ·have Hl:=zB (show ¬zBc W (W.zRg k).name (W.zRg k).zRh (W.zRg k).origin from fun h=>h1 ((zC1 Hw.out.steps jA.out).1 h).1);have h3:¬(n:Int)=(yq W (W.zRg k).name W.pn:Int):=(by omega);have g1:((n:Int) == (yq W (W.zRg k).name W.pn:Int))=false:=(by simp[h3]);have g2:((n:Int) != (yq W (W.zRg k).name W.pn:Int))=true:=(by simp[h3]);have g3:decide ((n:Int)=(yq W (W.zRg k).name W.pn:Int))=false:=(by simp[h3]);clear h1 h3;go_wp2;go_ret;exact⟨zG.no fun hA=>Hl.out (hA k cA),gA⟩
def zDO(W:zH)(i:Nat):Prop:=zDi (zO W i).dn (zO W i).ds (zO W i).db (zAV (zC5 W (zO W i)) (yS W (zO W i)))
structure zNm (W:zH):Prop where
 right:zx W.zRd
 zRo:zBI W
 lines:∀i,i<W.sn->zBc W (W.zRg i).name (W.zRg i).zRh (W.zRg i).origin
 zRe:∀i,i<W.pn->qH W.zRd (W.zRe i).rs (W.zRe i).rb
 zRg:∀i,i<W.sn->qH W.zRd (W.zRg i).rs (W.zRg i).rb/\zDO W (W.pn+i)
 zRl:∀i,i<W.pn->zDO W i
 reach:zEt W
 born:∀i,i<zq W->zCr W i
 zRk:zGk W
theorem zO0{W:zH}(h:∀k,k<W.pn->qH W.zRd (W.zRe k).rs (W.zRe k).rb)(x:Int):qH W.zRd (zN W x).rs (zN W x).rb:=by
 by_cases hx:∃k,qs W x k
 ·obtain⟨k,hk⟩:=hx;rw[qq hk];exact h k hk.1
 ·have:zN W x=yK:=by
   unfold zN;rw[dif_neg hx]
  rw[this];exact Or.inl ⟨rfl,rfl⟩
theorem zIa{W:zH}(hR:zx W.zRd)(hN:zBI W)(h1:∀i,i<W.pn->qH W.zRd (W.zRe i).rs (W.zRe i).rb)(h2:∀i,i<W.sn->qH W.zRd (W.zRg i).rs (W.zRg i).rb):zBJ W where
 right:=hR
 ids:=hN.prevOk.less
 tree:=fun i hi=>by
  by_cases hp:i<W.pn
  ·rw[qQ hp];exact h1 i hp
  ·have e:=yF W (i - W.pn);rw[show W.pn+(i - W.pn)=i by omega]at e;rw[e];unfold zq at hi;exact h2 _ (by omega)
 time:=fun i hi=>by
  by_cases hp:i<W.pn
  ·rw[qQ hp];have:1<=(W.zRe i).time:=(hN.2.2.2.2.2 i hp).1.2.2.1;show 0<=(W.zRe i).time;omega
  ·have e:=yF W (i - W.pn);rw[show W.pn+(i - W.pn)=i by omega]at e;rw[e];have:1<=W.time:=hN.1.1;show 0<=W.time;omega
theorem zOP{v0 v1 v2 v3 vd:Value}{lo hi:Nat}{W:zH}{w:World}(h:zk w lo hi v0 v1 v2 v3 W)(hR:zx W.zRd)(hO:∀k,k<W.pn->qH W.zRd (W.zRe k).rs (W.zRe k).rb)(hP:zCo W){k:Nat}(hk:k<W.pn)(hD:zU w lo hi vd (W.zRe k).dn (W.zRe k).ds (W.zRe k).db)(w':World)(hb:Below w.heap.size w w') :
  Calls Tryz.prog 72 #[zz v0 v1 v2 v3 W,.int .i64 (W.zRe k).zRh,.agg #[.int .i64 (W.zRe k).rs,.int .i64 (W.zRe k).rb],vd] w' fun e aA=>zG (zDO W k) e/\Below w'.heap.size w' aA:=by
 unfold zDO;rw[qQ hk];exact zG6 v0 v1 v2 v3 vd lo hi lo hi _ _ _ W _ _ _ _ _ w' (h.zRX hb) (hD.zRX hb) hR (hO k hk) (zO0 hO _) hP rfl rfl
theorem zOz{v0 v1 v2 v3 vd:Value}{lo hi:Nat}{W:zH}{w:World}(h:zk w lo hi v0 v1 v2 v3 W)(hR:zx W.zRd)(hO:∀k,k<W.pn->qH W.zRd (W.zRe k).rs (W.zRe k).rb)(hP:zCo W){k:Nat}(hT:qH W.zRd (W.zRg k).rs (W.zRg k).rb)(hD:zU w lo hi vd (W.zRg k).dn (W.zRg k).ds (W.zRg k).db)(w':World)(hb:Below w.heap.size w w') :
  Calls Tryz.prog 72 #[zz v0 v1 v2 v3 W,.int .i64 (W.zRg k).zRh,.agg #[.int .i64 (W.zRg k).rs,.int .i64 (W.zRg k).rb],vd] w' fun e aA=>zG (zDO W (W.pn+k)) e/\Below w'.heap.size w' aA:=by
 unfold zDO;rw[yF];exact zG6 v0 v1 v2 v3 vd lo hi lo hi _ _ _ W _ _ _ _ _ w' (h.zRX hb) (hD.zRX hb) hR hT (zO0 hO _) hP rfl rfl
def zCS(v:Value):Option (DataW Value×List MemPlace):=some (.held v,[])
theorem zEc{v:Value}{d:DataW Value}{ps:List MemPlace}(h:zCS v=some (d,ps)):d = .held v:=by
 unfold zCS at h;simp only[Option.some.injEq,Prod.mk.injEq]at h;exact h.1.symm
theorem zBz(v:Value):zCS v=some (.held v,[]):=rfl
theorem zGI{P:Program}(w:World){eA:Array Oper}{aA:List Oper}{o:Oper}{a:Act}{Q:Exit->Act->World->Prop}
  (hg:o.guard=none) (m x:Operand) (t:TypeId) (hop:o.op=Op.lookup t m x false)
  (k e:TypeId) (K:Keyed P k) (ht:P.underlying t=some (.map k e)) {z:Value} (hz:(zeroValue e).run P w = .ok z w) (b n:Nat) (D:DataW Value)
  (hm:a.eval m = .map (some b)) (dA:w.ownsMap P k zCS b n D) (key:Value) (kl:Lit) (hx:a.eval x=key) (cA:keyOf P k key=some kl)
  (v:Value) (gA:D.atKey kl (.held z) = .held v) (hK:wpList P eA Q aA (a.put o.dst v) w) :
  wpList P eA Q (o :: aA) a w:=by
 refine wpList_plain hg fun K' fA=>?_
 obtain⟨v',ps,bA,hv⟩:=dA.lookup K ht hz (zBz z) cA;have e1:=zEc hv;rw[gA]at e1;injection e1 with e1;subst e1;unfold Oper.wp;simp[execOp,hop,hm,hx,bA,Result.andThen];exact fA _ _ hK
theorem yy{P:Program}(w:World){dA:Array Oper}{aA:List Oper}{o:Oper}{a:Act}{Q:Exit->Act->World->Prop}
  (hg:o.guard=none) (m x:Operand) (t:TypeId) (hop:o.op=Op.lookup t m x true)
  (k e:TypeId) (K:Keyed P k) (ht:P.underlying t=some (.map k e)) {z:Value} (hz:(zeroValue e).run P w = .ok z w) (b n:Nat) (D:DataW Value)
  (hm:a.eval m = .map (some b)) (cA:w.ownsMap P k zCS b n D) (key:Value) (kl:Lit) (hx:a.eval x=key) (bA:keyOf P k key=some kl)
  (v:Value) (eA:D.atKey kl (.held z) = .held v) (c:Bool) (hc:Maps.has D kl=c) (hK:wpList P dA Q aA (a.put o.dst (.tuple #[v,.bool c])) w) :
  wpList P dA Q (o :: aA) a w:=by
 refine wpList_lookup_own_ok w hg m x t hop k e K ht zCS hz (.held z) [] (zBz z) b n D hm cA key kl hx bA (fun v' ps hv=>?_);have e1:=zEc hv;rw[eA]at e1;injection e1 with e1;subst e1;rw[hc];exact hK
def putD(key:Nat->Lit)(val:Nat->Value):Nat->DataW Value
 | 0=>.map []
 | k+1=>(putD key val k).put (key k) (.held (val k))
def zDj(key:Nat->Lit):Prop:=∀i,WideAt.IsKeyLit (key i)
theorem zCY{key:Nat->Lit}(hk:zDj key)(val:Nat->Value):∀k,Tidy (putD key val k)
 | 0=>tidy_empty
 | k+1=>(zCY hk val k).put (hk k) _
theorem zEV{key:Nat->Lit}(hk:zDj key)(val:Nat->Value)(l:Lit):∀k,Maps.has (putD key val k) l=true↔∃i,i<k/\key i=l
 | 0=>by
  constructor
  ·intro h;exact absurd h (by simp[putD,Maps.has])
  ·rintro⟨i,hi,_⟩;omega
 | k+1=>by
  by_cases hx:key k=l
  ·subst hx;exact⟨fun _=>⟨k,by omega,rfl⟩,fun _=>has_put_same (zCY hk val k).isMap (hk k) _⟩
  ·rw[show Maps.has (putD key val (k+1)) l=Maps.has (putD key val k) l from has_put_other (Ne.symm hx) _,zEV hk val l k];constructor
   ·rintro⟨i,hi,e⟩;exact⟨i,by omega,e⟩
   ·rintro⟨i,hi,e⟩;by_cases h:i=k
    ·subst h;exact absurd e hx
    ·exact⟨i,by omega,e⟩
theorem zGs{key:Nat->Lit}(hk:zDj key)(val:Nat->Value){l:Lit}{k:Nat}(h:∀i,i<k->key i≠l)(z:DataW Value):(putD key val k).atKey l z=z:=by
 refine atKey_of_not_has ?_ _;rw[Bool.eq_false_iff];intro hh;obtain⟨i,hi,e⟩:=(zEV hk val l k).1 hh;exact h i hi e
theorem zK2{key:Nat->Lit}(hk:zDj key)(val:Nat->Value)(z:DataW Value):∀k i,i<k->(∀j,i<j->j<k->key j≠key i)->(putD key val k).atKey (key i) z = .held (val i)
 | 0,i,hi,_=>absurd hi (Nat.not_lt_zero _)
 | k+1,i,hi,hd=>by
  by_cases e:i=k
  ·subst e;exact atKey_put_same (zCY hk val i).isMap (hk i) _ _
  ·exact(atKey_put_other (Ne.symm (hd k (by omega) (by omega))) _ _).trans (zK2 hk val z k i (by omega) (fun j h1 h2=>hd j h1 (by omega)))
def zGG(n:Nat)(key:Nat->Lit):Prop:=∀i,i<n->∀k,k<i->key k≠key i
theorem zFe{k:Nat}{f:Nat->Lit}:zGG (k+1) f↔zGG k f/\∀i,i<k->f i≠f k:=by
 constructor
 ·exact fun h=>⟨fun i hi=>h i (by omega),fun i hi=>h k (by omega) i hi⟩
 ·rintro⟨h1,h2⟩ i hi j hj;by_cases e:i=k
  ·subst e;exact h2 j hj
  ·exact h1 i (by omega) j hj
theorem zGj{key:Nat->Lit}(hk:zDj key)(val:Nat->Value):∀k,Maps.size (putD key val k)<=k/\(Maps.size (putD key val k)=k↔zGG k key)
 | 0=>⟨Nat.le_refl _,fun _ i hi=>by omega,fun _=>rfl⟩
 | k+1=>by
  obtain⟨h1,h2⟩:=zGj hk val k;have e:Maps.size (putD key val (k+1))=if Maps.has (putD key val k) (key k)then Maps.size (putD key val k)else Maps.size (putD key val k)+1:=size_put (zCY hk val k) _
  by_cases hh:Maps.has (putD key val k) (key k)=true
  ·rw[if_pos hh]at e;rw[e,zFe];refine⟨by omega,fun h=>by omega,fun h=>?_⟩;obtain⟨i,hi,he⟩:=(zEV hk val (key k) k).1 hh;exact absurd he (h.2 i hi)
  ·rw[if_neg hh]at e;rw[e,zFe,<-h2];refine⟨by omega,fun h=>⟨by omega,fun i hi he=>hh ((zEV hk val (key k) k).2 ⟨i,hi,he⟩)⟩,fun h=>by omega⟩
theorem zEa(n:Int)(w:World):Calls Tryz.prog 202 #[.int .i64 n] w fun e w'=>zG (zB6 n 1 900000) e/\w'=w:=by
 by_cases h1:1<=n
 ·by_cases h2:n<=900000
  ·go_enter Tryz.func202,Tryz.ntmps202;go_wp2;go_ret;exact⟨zG.yes ⟨h1,h2⟩,rfl⟩
  ·go_enter Tryz.func202,Tryz.ntmps202;go_wp2;go_ret;exact⟨zG.no fun h=>by have:=h.2;omega,rfl⟩
 ·go_enter Tryz.func202,Tryz.ntmps202;go_wp2;go_ret;exact⟨zG.no fun h=>by have:=h.1;omega,rfl⟩
def Mid(a x b:Int):Prop:=a<x/\x<b
theorem zHH(a x b:Int)(w:World):Calls Tryz.prog 222 #[.int .i64 a,.int .i64 x,.int .i64 b] w fun e w'=>zG (Mid a x b) e/\w'=w:=by
 by_cases h1:a<x
 ·by_cases h2:x<b
  ·go_enter Tryz.func222,Tryz.ntmps222;go_wp2;go_ret;exact⟨zG.yes ⟨h1,h2⟩,rfl⟩
  ·go_enter Tryz.func222,Tryz.ntmps222;go_wp2;go_ret;exact⟨zG.no fun h=>by have:=h.2;omega,rfl⟩
 ·go_enter Tryz.func222,Tryz.ntmps222;go_wp2;go_ret;exact⟨zG.no fun h=>by have:=h.1;omega,rfl⟩
def zEk(f:Nat->qD):Nat->ByteArray
 | 0=>⟨#[]⟩
 | k+1=>(f k).name
def zQo(n:Nat)(f:Nat->qD):Prop:=n<=8/\∀i,i<n->yI (f i).name/\zDV (zEk f i) (f i).name
theorem zJB(v:Value)(n lo hi:Nat)(f:Nat->qD)(w:World)(h:yW w lo hi v n f) :
  Calls Tryz.prog 203 #[v] w fun e w'=>zG (zQo n f) e/\Below w.heap.size w w':=by
 have Hp:=zB h;obtain⟨m1,a,c,rfl,mc,-⟩:=id h;unfold maxLen at m1;clear h;by_cases hn:n<=8;rotate_left
 ·have iA:(8:Int)<(n:Int):=(by omega);go_enter Tryz.func203,Tryz.ntmps203;go_wp2;go_ret;exact⟨zG.no fun h=>hn h.1,Below.refl _ _⟩
 have iA:¬(8:Int)<(n:Int):=by omega
 go_enter Tryz.func203,Tryz.ntmps203;go_wp2
 go_loopw [3,11] (fun l i wr=>∃k:Nat,k<=n/\i = .int .i64 k/\l = .string (zEk f k)/\(∀j,j<k->yI (f j).name/\zDV (zEk f j) (f j).name)/\Below w.heap.size w wr) (fun _ i _=>n - (intOf i).toNat)
 case atStart=>exact⟨0,Nat.zero_le _,rfl,rfl,fun j hj=>absurd hj (Nat.not_lt_zero _),Below.refl _ _⟩
 case round=>
  obtain⟨k,hk,rfl,rfl,cA,hb⟩:=hrel;have bA:=zB cA;clear cA;by_cases eA:k<n;rotate_left
  ·obtain rfl:k=n:=(by omega);go_wp2;go_ret;exact⟨zG.yes ⟨hn,bA.out⟩,hb⟩
  have kA:(k:Int)<(n:Int):=(by omega);obtain⟨b,off,vd,rfl,aA⟩:=(Hp.out.zRX hb).cells eA;obtain⟨-,ad,cd,rfl,-,-⟩:=id aA.zRl;have gA:=zC wr (.cells #[.string (f k).name,.int .i64 (f k).origin,.int .i64 (f k).zRh,.int .i64 (f k).rs,.int .i64 (f k).rb,.slice ad (f k).dn cd] 67);have jA:=zB (zi.zRZ wr (.string (f k).name) (.int .i64 (f k).origin) (.int .i64 (f k).zRh) (.int .i64 (f k).rs) (.int .i64 (f k).rb) (.slice ad (f k).dn cd) 67);have fA:=zA hb gA;have q0:=aA.c0;have q1:=aA.c1;have q2:=aA.c2;have q3:=aA.c3;have q4:=aA.c4;have q5:=aA.c5;have lA:=aA.zRn;obtain⟨⟨y0,y1⟩,-⟩:=jA.out;clear aA gA;go_wp2_with fail;clear q0 q1 q2 q3 q4 q5;refine(zD4 (f k).name _ lA).mono ?_;rintro e wn ⟨⟨tn,rfl,dA⟩,rfl⟩;by_cases hA:yI (f k).name;rotate_left
  ·have Hn:=zB hA;obtain rfl:tn=false:=zQ dA hA;clear dA hA;go_wp2;go_ret;exact⟨zG.no fun h=>Hn.out (h.2 k eA).1,fA⟩
  have HA:=zB hA;obtain rfl:tn=true:=dA.2 hA;clear dA hA;by_cases hR:zDV (zEk f k) (f k).name
  ·have f1:=(zNq (f k).name (zEk f k)).2 hR;have HR:=zB hR;clear hR;go_wp2;go_roundw
   case rel=>exact⟨k+1,by omega,by go_num,rfl,zo eA bA.out ⟨HA.out,HR.out⟩,fA⟩
   case measure=>simp[intOf];omega
  ·have f1:(Op.bytesLess (f k).name.toList (zEk f k).toList || (f k).name.toList == (zEk f k).toList)=true:=by
    cases hc:(Op.bytesLess (f k).name.toList (zEk f k).toList || (f k).name.toList == (zEk f k).toList)
    ·exact absurd ((zNq _ _).1 hc) hR
    ·rfl
   have HR:=zB hR;clear hR;go_wp2;go_ret;exact⟨zG.no fun h=>HR.out (h.2 k eA).2,fA⟩
theorem zPW:laidOutB Tryz.prog=true:=by kernel_rfl
theorem zQi:300<=Tryz.prog.types.size+300 - 1/\1<=Tryz.prog.types.size:=by
 have h:decide (1<=Tryz.prog.types.size)=true:=by kernel_rfl
 have:=of_decide_eq_true h;omega
theorem zPU{k:Nat}(h:decide (k<Tryz.prog.types.size)=true):k<Tryz.prog.types.size:=of_decide_eq_true h
theorem zRV:Tryz.prog.underlying 9=some .string:=by kernel_rfl
theorem zRF:Tryz.prog.underlying 2=some (.int .i64):=by kernel_rfl
theorem zOy:Keyed Tryz.prog 9:=string_keyed zRV
theorem zRB:Keyed Tryz.prog 2:=int_keyed zRF
def zC4(s:ByteArray):Lit:=.string s.data.toList
theorem zKC{s:ByteArray}(h:s.size<=maxLen):keyOf Tryz.prog 9 (.string s)=some (zC4 s):=by simp[keyOf,mapKey,zC4,h]
theorem zPo{s t:ByteArray}(h:zC4 s=zC4 t):s=t:=by
 unfold zC4 at h;injection h with h;cases s;cases t;simp only[ByteArray.mk.injEq];exact Array.toList_inj.1 h
theorem zLO(s:ByteArray):WideAt.IsKeyLit (zC4 s):=trivial
def zKk(x:Int):Lit:=.int .i64 x
theorem zNk{x:Int}(h:(Lit.int .i64 x).wf=true):keyOf Tryz.prog 2 (.int .i64 x)=some (zKk x):=keyOf_int_mk zRF h
theorem zLJ{x y:Int}(h:zKk x=zKk y):x=y:=by unfold zKk at h;injection h
theorem zPf(x:Int):WideAt.IsKeyLit (zKk x):=trivial
theorem zRD:Tryz.prog.underlying 266=some (.array 2 9):=by kernel_rfl
theorem zQ3:Keyed Tryz.prog 266:=Keyed.of_law (deep_law_laid zPW (m:=5) (by decide) (zPU (by kernel_rfl)) (by kernel_rfl) (by kernel_rfl))
theorem zQM{s t:ByteArray}(hs:s.size<=maxLen)(ht:t.size<=maxLen):∃l,keyOf Tryz.prog 266 (.agg #[.string s,.string t])=some l:=by
 obtain⟨m,hm⟩:∃m,Tryz.prog.types.size+1=m+2:=⟨Tryz.prog.types.size - 1,by have:=zQi;omega⟩;have hk:Tryz.prog.keyType 266=true:=by kernel_rfl
 have hc:Tryz.prog.cellsOf 266=2:=by kernel_rfl
 have h1:Tryz.prog.cellsOf 9=1:=by kernel_rfl
 unfold keyOf;simp only[zRD];rw[if_pos (by simp[hk,Value.formed,hc]),hm];unfold Program.keyLits;simp only[zRD,Value.cells];rw[if_pos (by rw[hc];rfl),show List.range 2 = [0,1] from rfl,List.mapM_cons,List.mapM_cons,List.mapM_nil];simp[h1,Program.keyLits,hs,ht]
theorem zRG:Tryz.prog.underlying 61=some (.struct #[⟨"Slot",2,0,false, "", "",0⟩,⟨"Birth",2,1,false, "", "",8⟩]):=by kernel_rfl
theorem zQ6:Keyed Tryz.prog 61:=Keyed.of_law (deep_law_laid zPW (m:=5) (by decide) (zPU (by kernel_rfl)) (by kernel_rfl) (by kernel_rfl))
theorem zQJ{x y:Int}(hx:(Lit.int .i64 x).wf=true)(hy:(Lit.int .i64 y).wf=true):∃l,keyOf Tryz.prog 61 (.agg #[.int .i64 x,.int .i64 y])=some l:=by
 obtain⟨m,hm⟩:∃m,Tryz.prog.types.size+1=m+2:=⟨Tryz.prog.types.size - 1,by have:=zQi;omega⟩;have hk:Tryz.prog.keyType 61=true:=by kernel_rfl
 have hc:Tryz.prog.cellsOf 61=2:=by kernel_rfl
 have h1:Tryz.prog.cellsOf 2=1:=by kernel_rfl
 unfold keyOf;simp only[zRG];rw[if_pos (by simp[hk,Value.formed,hc]),hm];unfold Program.keyLits;simp only[zRG,Value.cells];rw[if_pos ⟨by rw[hc];rfl,by kernel_rfl⟩];simp[h1,Program.keyLits,hx,hy]
def zDU(vd:Value)(s:qD):Value:=.agg #[.string s.name,.int .i64 s.origin,.int .i64 s.zRh,.int .i64 s.rs,.int .i64 s.rb,vd]
def yd(vd:Value)(s:zl):Value:=.agg #[.int .i64 s.id,.string s.name,.string s.set,.int .i64 s.zRh,.int .i64 s.time,.int .i64 s.rs,.int .i64 s.rb,vd]
def zL0(w:World)(lo hi n:Nat)(f:Nat->qD)(vd:Nat->Value):Prop:=∀i,i<n->zU w lo hi (vd i) (f i).dn (f i).ds (f i).db
def zEv(w:World)(lo hi n:Nat)(f:Nat->zl)(vd:Nat->Value):Prop:=∀i,i<n->zU w lo hi (vd i) (f i).dn (f i).ds (f i).db
open Classical in
theorem yW.vals{w:World}{lo hi:Nat}{a:Option Addr}{n c:Nat}{f:Nat->qD}(h:yW w lo hi (.slice a n c) n f):∃vd:Nat->Value,zL0 w lo hi n f vd/\∀i,i<n->∃b off,a=some ⟨b,off,none⟩/\zBd w b (off+i*6) lo hi (vd i) (f i):=by
 have hx:∀i,∃v,i<n->∃b off,a=some ⟨b,off,none⟩/\zBd w b (off+i*6) lo hi v (f i):=fun i=>by
  by_cases hi':i<n
  ·obtain⟨b,off,vd,ha,hs⟩:=h.cells hi';exact⟨vd,fun _=>⟨b,off,ha,hs⟩⟩
  ·exact⟨undef,fun h=>absurd h hi'⟩
 refine⟨fun i=>(hx i).choose,fun i hi'=>?_,fun i hi'=>(hx i).choose_spec hi'⟩;obtain⟨b,off,_,hs⟩:=(hx i).choose_spec hi';exact hs.zRl
open Classical in
theorem qu.vals{w:World}{lo hi:Nat}{a:Option Addr}{n c:Nat}{f:Nat->zl}(h:qu w lo hi (.slice a n c) n f):∃vd:Nat->Value,zEv w lo hi n f vd/\∀i,i<n->∃b off,a=some ⟨b,off,none⟩/\zAo w b (off+i*8) lo hi (vd i) (f i):=by
 have hx:∀i,∃v,i<n->∃b off,a=some ⟨b,off,none⟩/\zAo w b (off+i*8) lo hi v (f i):=fun i=>by
  by_cases hi':i<n
  ·obtain⟨b,off,vd,ha,hs⟩:=h.cells hi';exact⟨vd,fun _=>⟨b,off,ha,hs⟩⟩
  ·exact⟨undef,fun h=>absurd h hi'⟩
 refine⟨fun i=>(hx i).choose,fun i hi'=>?_,fun i hi'=>(hx i).choose_spec hi'⟩;obtain⟨b,off,_,hs⟩:=(hx i).choose_spec hi';exact hs.zRl
theorem zLF:Tryz.prog.underlying 177=some (.map 9 67):=by kernel_rfl
theorem zP6:Tryz.prog.underlying 218=some (.map 2 99):=by kernel_rfl
theorem zPw:Tryz.prog.underlying 265=some (.map 266 2):=by kernel_rfl
def zB5(w:World)(W:zH)(M n:Nat)(vd:Nat->Value):Prop:=w.ownsMap Tryz.prog 9 zCS M n (putD (fun i=>zC4 (W.zRg i).name) (fun i=>zDU (vd i) (W.zRg i)) n)
def zCi(w:World)(W:zH)(M n:Nat)(vd:Nat->Value):Prop:=w.ownsMap Tryz.prog 2 zCS M n (putD (fun i=>zKk (W.zRe i).id) (fun i=>yd (vd i) (W.zRe i)) n)
theorem zB5.zRX{w w':World}{W:zH}{M n:Nat}{vd:Nat->Value}(h:zB5 w W M n vd)(t:Below w.heap.size w w'):zB5 w' W M n vd:=h.kept (yt t none) (by simp)
theorem zCi.zRX{w w':World}{W:zH}{M n:Nat}{vd:Nat->Value}(h:zCi w W M n vd)(t:Below w.heap.size w w'):zCi w' W M n vd:=h.kept (yt t none) (by simp)
theorem zEX(v0 v1 v2 v3:Value)(lo hi:Nat)(W:zH)(w:World)(h:zk w lo hi v0 v1 v2 v3 W)(hn:W.sn<=8) :
  Calls Tryz.prog 129 #[zz v0 v1 v2 v3 W] w fun e w'=>∃vd,e = .returned (.map (some (w.heap.size+1)))/\zB5 w' W (w.heap.size+1) W.sn vd/\zL0 w lo hi W.sn W.zRg vd/\Below w.heap.size w w':=by
 have Hp:=zB h;obtain⟨m1,a,c,rfl,mc,-⟩:=id h.zRg;unfold maxLen at m1;obtain⟨vd,lA,mA⟩:=h.zRg.vals;have cB:=zB lA;have aB:=zB mA;clear h lA mA;have ha:=zC w (.cells #[v0,v1,.int .i64 W.time,.int .i64 W.next,.slice a W.sn c,v3] 37);have HB:=zB (zi.zRZ w v0 v1 (.int .i64 W.time) (.int .i64 W.next) (.slice a W.sn c) v3 37);have iA:(w.alloc (.cells #[v0,v1,.int .i64 W.time,.int .i64 W.next,.slice a W.sn c,v3] 37)).heap.size=w.heap.size+1:=World.size_alloc _ _;have hm:=World.ownsMap_made (w.alloc (.cells #[v0,v1,.int .i64 W.time,.int .i64 W.next,.slice a W.sn c,v3] 37)) Tryz.prog 9 zCS;rw[iA]at hm;have HM:=zB hm;have pA:=zB (HB.out.zRX (zC _ (.map #[] 0)));have rA:=zB (zA ha (zC _ (.map #[] 0)));have eB:=@run_makeMap Tryz.prog;obtain⟨⟨x0,-⟩,⟨x2,-⟩,⟨x4,-⟩,⟨x6,-⟩,⟨x8,-⟩,⟨tA,-⟩⟩:=pA.out;clear hm;go_enter Tryz.func129,Tryz.ntmps129;go_wp2;clear x0 x2 x4 x6 x8 tA ha
 go_loopw [10] (fun i wr=>∃k:Nat,k<=W.sn/\i = .int .i64 k/\zB5 wr W (w.heap.size+1) k vd/\Below w.heap.size w wr/\w.heap.size+2<=wr.heap.size) (fun i _=>W.sn - (intOf i).toNat)
 case atStart=>exact⟨0,Nat.zero_le _,rfl,HM.out,rA.out,by rw[World.size_alloc,iA];omega⟩
 case round=>
  clear HM pA rA HB iA;obtain⟨k,hk,rfl,eA,hb,hz⟩:=hrel;have cA:=zB eA;clear eA;by_cases vA:k<W.sn
  ·have bB:(k:Int)<(W.sn:Int):=(by omega);obtain⟨b,off,rfl,oA⟩:=aB.out k vA;have bA:=oA.zRX hb;obtain⟨-,ad,cd,jA,-,-⟩:=id bA.zRl;have dB:=zB jA;rw[jA]at bA;clear jA oA;have gA:=zC wr (.cells #[.string (W.zRg k).name,.int .i64 (W.zRg k).origin,.int .i64 (W.zRg k).zRh,.int .i64 (W.zRg k).rs,.int .i64 (W.zRg k).rb,.slice ad (W.zRg k).dn cd] 67);have sA:=zB (zi.zRZ wr (.string (W.zRg k).name) (.int .i64 (W.zRg k).origin) (.int .i64 (W.zRg k).zRh) (.int .i64 (W.zRg k).rs) (.int .i64 (W.zRg k).rb) (.slice ad (W.zRg k).dn cd) 67);have nA:=zA hb gA;have q0:=bA.c0;have q1:=bA.c1;have q2:=bA.c2;have q3:=bA.c3;have q4:=bA.c4;have q5:=bA.c5;have kA:=zB (zKC bA.zRn);obtain⟨⟨y0,y1⟩,⟨y2,y3⟩,⟨y4,y5⟩,⟨y6,y7⟩,⟨y8,y9⟩,⟨fB,gB⟩⟩:=sA.out;have dA:=zB (cA.out.zRX gA);have iB:=gA.size;clear bA gA;go_wp2_with (first
    | (at_mapUpdate;refine wpList_mapUpdate_own _ rfl _ _ _ 177 rfl 9 67 zOy zLF zCS (w.heap.size+1) k _ rfl dA.out (by unfold maxLen;omega) _ _ _ rfl rfl kA.out _ [] (zBz _) ?_;intro w1 fA aA)
    | go_in)
   go_roundw
   case rel=>
    refine⟨k+1,by omega,by go_num,?_,nA.grown aA nA.size (fun j hj=>by cases hj;omega),by have:=aA.size;omega⟩;unfold zB5 putD zDU;rw[dB.out];exact fA
   case measure=>simp[intOf];omega
  ·obtain rfl:k=W.sn:=(by omega);go_wp2;go_ret;exact⟨vd,rfl,cA.out,cB.out,hb⟩
def zNW(n:Nat)(f:Nat->zl):Prop:=∀i,i<n->(Lit.int .i64 (f i).id).wf=true
theorem zIr(v0 v1 v2 v3:Value)(lo hi:Nat)(W:zH)(w:World)(h:zk w lo hi v0 v1 v2 v3 W)(hn:W.pn<=20)(sA:zNW W.pn W.zRe) :
  Calls Tryz.prog 179 #[zz v0 v1 v2 v3 W] w fun e w'=>∃vd,e = .returned (.map (some (w.heap.size+1)))/\zCi w' W (w.heap.size+1) W.pn vd/\zEv w lo hi W.pn W.zRe vd/\Below w.heap.size w w':=by
 have Hp:=zB h;have cB:=zB sA;obtain⟨m1,a,c,rfl,mc,-⟩:=id h.zRe;unfold maxLen at m1;obtain⟨vd,mA,nA⟩:=h.zRe.vals;have eB:=zB mA;have bB:=zB nA;clear h mA nA sA;have ha:=zC w (.cells #[v0,v1,.int .i64 W.time,.int .i64 W.next,v2,.slice a W.pn c] 37);have HB:=zB (zi.zRZ w v0 v1 (.int .i64 W.time) (.int .i64 W.next) v2 (.slice a W.pn c) 37);have iA:(w.alloc (.cells #[v0,v1,.int .i64 W.time,.int .i64 W.next,v2,.slice a W.pn c] 37)).heap.size=w.heap.size+1:=World.size_alloc _ _;have hm:=World.ownsMap_made (w.alloc (.cells #[v0,v1,.int .i64 W.time,.int .i64 W.next,v2,.slice a W.pn c] 37)) Tryz.prog 2 zCS;rw[iA]at hm;have HM:=zB hm;have rA:=zB (HB.out.zRX (zC _ (.map #[] 0)));have tA:=zB (zA ha (zC _ (.map #[] 0)));have gB:=@run_makeMap Tryz.prog;obtain⟨⟨x0,-⟩,⟨x2,-⟩,⟨x4,-⟩,⟨x6,-⟩,⟨x8,-⟩,⟨aB,-⟩⟩:=rA.out;clear hm;go_enter Tryz.func179,Tryz.ntmps179;go_wp2;clear x0 x2 x4 x6 x8 aB ha
 go_loopw [10] (fun i wr=>∃k:Nat,k<=W.pn/\i = .int .i64 k/\zCi wr W (w.heap.size+1) k vd/\Below w.heap.size w wr/\w.heap.size+2<=wr.heap.size) (fun i _=>W.pn - (intOf i).toNat)
 case atStart=>exact⟨0,Nat.zero_le _,rfl,HM.out,tA.out,by rw[World.size_alloc,iA];omega⟩
 case round=>
  clear HM rA tA HB iA;obtain⟨k,hk,rfl,eA,hb,hz⟩:=hrel;have cA:=zB eA;clear eA;by_cases lA:k<W.pn
  ·have dB:(k:Int)<(W.pn:Int):=(by omega);obtain⟨b,off,rfl,pA⟩:=bB.out k lA;have aA:=pA.zRX hb;obtain⟨-,ad,cd,jA,-,-⟩:=id aA.zRl;have fB:=zB jA;rw[jA]at aA;clear jA pA;have gA:=zC wr (.cells #[.int .i64 (W.zRe k).id,.string (W.zRe k).name,.string (W.zRe k).set,.int .i64 (W.zRe k).zRh,.int .i64 (W.zRe k).time,.int .i64 (W.zRe k).rs,.int .i64 (W.zRe k).rb,.slice ad (W.zRe k).dn cd] 99);have vA:=zB (zCP.zRZ wr (.int .i64 (W.zRe k).id) (.string (W.zRe k).name) (.string (W.zRe k).set) (.int .i64 (W.zRe k).zRh) (.int .i64 (W.zRe k).time) (.int .i64 (W.zRe k).rs) (.int .i64 (W.zRe k).rb) (.slice ad (W.zRe k).dn cd) 99);have oA:=zA hb gA;have q0:=aA.c0;have q1:=aA.c1;have q2:=aA.c2;have q3:=aA.c3;have q4:=aA.c4;have q5:=aA.c5;have q6:=aA.c6;have q7:=aA.c7;have kA:=zB (zNk (cB.out k lA));obtain⟨⟨⟨y0,-⟩,⟨y1,-⟩,⟨y2,-⟩,⟨y3,-⟩⟩,⟨y4,-⟩,⟨y5,-⟩,⟨y6,-⟩,⟨y7,-⟩⟩:=vA.out;have dA:=zB (cA.out.zRX gA);have iB:=gA.size;clear aA gA;go_wp2_with (first
    | (at_mapUpdate;refine wpList_mapUpdate_own _ rfl _ _ _ 218 rfl 2 99 zRB zP6 zCS (w.heap.size+1) k _ rfl dA.out (by unfold maxLen;omega) _ _ _ rfl rfl kA.out _ [] (zBz _) ?_;intro w1 fA bA)
    | go_in)
   go_roundw
   case rel=>
    refine⟨k+1,by omega,by go_num,?_,oA.grown bA oA.size (fun j hj=>by cases hj;omega),by have:=bA.size;omega⟩;unfold zCi putD yd;rw[fB.out];exact fA
   case measure=>simp[intOf];omega
  ·obtain rfl:k=W.pn:=(by omega);go_wp2;go_ret;exact⟨vd,rfl,cA.out,eB.out,hb⟩
def zCl(n:Nat)(f:Nat->zl):Prop:=∀i,i<n->∀k,k<i->¬((f k).set=(f i).set/\(f k).name=(f i).name)
theorem zCl.iff{n:Nat}{f:Nat->zl}{key:Nat->Lit}(hk:∀i,i<n->keyOf Tryz.prog 266 (.agg #[.string (f i).set,.string (f i).name])=some (key i)):zGG n key↔zCl n f:=by
 constructor
 ·intro h i hi k aA e;refine h i hi k aA ?_;have h1:=hk i hi;have h2:=hk k (by omega);rw[e.1,e.2,h1]at h2;exact(Option.some.inj h2).symm
 ·intro h i hi k aA e;have h1:=hk i hi;have h2:=hk k (by omega);rw[e]at h2;have:=zQ3.inj h2 h1;simp only[Value.agg.injEq,Array.mk.injEq,List.cons.injEq,Value.string.injEq,and_true]at this;exact h i hi k aA this
theorem zHe(v:Value)(n lo hi:Nat)(f:Nat->zl)(w:World)(h:qu w lo hi v n f)(hn:n<=20) :
  Calls Tryz.prog 223 #[v] w fun e w'=>zG (zCl n f) e/\Below w.heap.size w w':=by
 have Hp:=zB h;obtain⟨m1,a,c,rfl,mc,-⟩:=id h;unfold maxLen at m1;have gA:∀i,∃l,WideAt.IsKeyLit l/\(i<n->keyOf Tryz.prog 266 (.agg #[.string (f i).set,.string (f i).name])=some l):=fun i=>by
  by_cases hi':i<n
  ·obtain⟨b,off,vd,_,hs⟩:=h.cells hi';obtain⟨l,hl⟩:=zQM hs.zRn.2 hs.zRn.1;exact⟨l,zQ3.key hl,fun _=>hl⟩
  ·exact⟨.string [],trivial,fun h=>absurd h hi'⟩
 obtain⟨key,kA,oA⟩:∃key:Nat->Lit,zDj key/\∀i,i<n->keyOf Tryz.prog 266 (.agg #[.string (f i).set,.string (f i).name])=some (key i):=⟨fun i=>(gA i).choose,fun i=>(gA i).choose_spec.1,fun i=>(gA i).choose_spec.2⟩;have tA:=zB kA;have nA:=zB oA;clear h gA kA oA;have HM:=zB (World.ownsMap_made w Tryz.prog 266 zCS);have vA:=@run_makeMap Tryz.prog;go_enter Tryz.func223,Tryz.ntmps223;go_wp2
 go_loopw [9] (fun i wr=>∃k:Nat,k<=n/\i = .int .i64 k/\wr.ownsMap Tryz.prog 266 zCS w.heap.size k (putD key (fun i=>.int .i64 (f i).id) k)/\Below w.heap.size w wr/\w.heap.size+1<=wr.heap.size) (fun i _=>n - (intOf i).toNat)
 case atStart=>exact⟨0,Nat.zero_le _,rfl,HM.out,zC _ _,by rw[World.size_alloc];omega⟩
 case round=>
  clear HM;obtain⟨k,hk,rfl,eA,hb,hz⟩:=hrel;have cA:=zB eA;clear eA;by_cases lA:k<n
  ·have sA:(k:Int)<(n:Int):=(by omega);obtain⟨b,off,vd,rfl,bA⟩:=(Hp.out.zRX hb).cells lA;obtain⟨-,ad,cd,rfl,-,-⟩:=id bA.zRl;have iA:=zC wr (.cells #[.int .i64 (f k).id,.string (f k).name,.string (f k).set,.int .i64 (f k).zRh,.int .i64 (f k).time,.int .i64 (f k).rs,.int .i64 (f k).rb,.slice ad (f k).dn cd] 99);have pA:=zB (zCP.zRZ wr (.int .i64 (f k).id) (.string (f k).name) (.string (f k).set) (.int .i64 (f k).zRh) (.int .i64 (f k).time) (.int .i64 (f k).rs) (.int .i64 (f k).rb) (.slice ad (f k).dn cd) 99);have mA:=zA hb iA;have q0:=bA.c0;have q1:=bA.c1;have q2:=bA.c2;have q3:=bA.c3;have q4:=bA.c4;have q5:=bA.c5;have q6:=bA.c6;have q7:=bA.c7;have jA:=zB (nA.out k lA);obtain⟨⟨⟨y0,-⟩,⟨y1,-⟩,⟨y2,-⟩,⟨y3,-⟩⟩,⟨y4,-⟩,⟨y5,-⟩,⟨y6,-⟩,⟨y7,-⟩⟩:=pA.out;have dA:=zB (cA.out.kept (yt iA none) (by simp));have aB:=iA.size;clear bA iA;go_wp2_with (first
    | (at_mapUpdate;refine wpList_mapUpdate_own _ rfl _ _ _ 265 rfl 266 2 zQ3 zPw zCS w.heap.size k _ rfl dA.out (by unfold maxLen;omega) _ _ _ rfl rfl jA.out _ [] (zBz _) ?_;intro w1 fA aA)
    | go_in)
   go_roundw
   case rel=>exact⟨k+1,by omega,by go_num,fA,mA.grown aA mA.size (fun j hj=>by cases hj;omega),by have:=aA.size;omega⟩
   case measure=>simp[intOf];omega
  ·obtain rfl:k=n:=(by omega);have rA:=zB (zGj tA.out (fun i=>.int .i64 (f i).id) k);have HN:=zB (zCl.iff (f:=f) nA.out);go_wp2_with (first
    | (at_len;refine wpList_len_own _ rfl _ 265 rfl 266 2 zPw zCS w.heap.size k _ rfl cA.out ?_)
    | go_in)
   go_ret;refine⟨⟨_,rfl,?_⟩,hb⟩;have h1:=rA.out.2;have h2:=HN.out;simp only[beq_iff_eq,Int.natCast_inj];exact h1.trans h2
def zEi(f:Nat->zl):Nat->zl
 | 0=>yK
 | k+1=>f k
def zH0(W:zH)(i:Nat):Prop:=zAS W (W.zRe i).set/\yI (W.zRe i).name/\(W.zRe i).zRh<(W.zRe i).id/\Mid (zEi W.zRe i).id (W.zRe i).id W.next/\Mid (zEi W.zRe i).time (W.zRe i).time W.time
def zPz(W:zH):Prop:=W.pn<=20/\(∀i,i<W.pn->zH0 W i)/\zCl W.pn W.zRe
theorem zF8(w:World):(zeroValue 67).run Tryz.prog w = .ok (.agg #[.string ⟨#[]⟩,.int .i64 0,.int .i64 0,.int .i64 0,.int .i64 0,.slice none 0 0]) w:=by kernel_rfl
theorem zJc{W:zH}{vd:Nat->Value}(hd:∀i,i<W.sn->∃a n c,vd i = .slice a n c)(x:ByteArray):∃(s0:ByteArray) (i1 i2 i3 i4:Int) (a:Option Addr) (n c:Nat),(putD (fun i=>zC4 (W.zRg i).name) (fun i=>zDU (vd i) (W.zRg i)) W.sn).atKey (zC4 x) (.held (.agg #[.string ⟨#[]⟩,.int .i64 0,.int .i64 0,.int .i64 0,.int .i64 0,.slice none 0 0])) = .held (.agg #[.string s0,.int .i64 i1,.int .i64 i2,.int .i64 i3,.int .i64 i4,.slice a n c]):=by
 have hk:zDj (fun i=>zC4 (W.zRg i).name):=fun i=>zLO _
 have:∀k,k<=W.sn->∃(s0:ByteArray) (i1 i2 i3 i4:Int) (a:Option Addr) (n c:Nat),(putD (fun i=>zC4 (W.zRg i).name) (fun i=>zDU (vd i) (W.zRg i)) k).atKey (zC4 x) (.held (.agg #[.string ⟨#[]⟩,.int .i64 0,.int .i64 0,.int .i64 0,.int .i64 0,.slice none 0 0])) = .held (.agg #[.string s0,.int .i64 i1,.int .i64 i2,.int .i64 i3,.int .i64 i4,.slice a n c]):=by
  intro k
  induction k with
  | zero=>exact fun _=>⟨⟨#[]⟩,0,0,0,0,none,0,0,zGs hk _ (fun i hi=>absurd hi (Nat.not_lt_zero _)) _⟩
  | succ k ih=>
   intro aA;by_cases e:zC4 (W.zRg k).name=zC4 x
   ·obtain⟨a,n,c,hv⟩:=hd k (by omega);refine⟨(W.zRg k).name,(W.zRg k).origin,(W.zRg k).zRh,(W.zRg k).rs,(W.zRg k).rb,a,n,c,?_⟩;rw[<-e];refine(atKey_put_same (zCY hk _ k).isMap (hk k) _ _).trans ?_;show DataW.held (zDU (vd k) (W.zRg k))=_;rw[hv];rfl
   ·obtain⟨s0,i1,i2,i3,i4,a,n,c,h⟩:=ih (by omega);exact⟨s0,i1,i2,i3,i4,a,n,c,(atKey_put_other (Ne.symm e) _ _).trans h⟩
 exact this W.sn (Nat.le_refl _)
theorem zLg{W:zH}{vd:Nat->Value}(x:ByteArray):Maps.has (putD (fun i=>zC4 (W.zRg i).name) (fun i=>zDU (vd i) (W.zRg i)) W.sn) (zC4 x)=true↔zAS W x:=by
 rw[zEV (fun i=>zLO _)];constructor
 ·rintro⟨i,hi,e⟩;exact⟨i,hi,zPo e⟩
 ·rintro⟨i,hi,e⟩;exact⟨i,hi,by rw[e]⟩
abbrev put8(w:World)(b:Nat)(u0 u1 u2 u3 u4 u5 u6 u7:Value):World:=(((((((w.setCell ⟨b,0,none⟩ u0).setCell ⟨b,1,none⟩ u1).setCell ⟨b,2,none⟩ u2).setCell ⟨b,3,none⟩ u3).setCell ⟨b,4,none⟩ u4).setCell ⟨b,5,none⟩ u5).setCell ⟨b,6,none⟩ u6).setCell ⟨b,7,none⟩ u7
theorem zCP.put{w:World}{b:Nat}{v0 v1 v2 v3 v4 v5 v6 v7:Value}(h:zCP w b v0 v1 v2 v3 v4 v5 v6 v7)(u0 u1 u2 u3 u4 u5 u6 u7:Value):zCP (put8 w b u0 u1 u2 u3 u4 u5 u6 u7) b u0 u1 u2 u3 u4 u5 u6 u7:=by
 obtain⟨⟨h0,h1,h2,h3⟩,h4,h5,h6,h7⟩:=h;refine⟨⟨?_,?_,?_,?_⟩,?_,?_,?_,?_⟩
 ·exact(((((((h0.set _).zRY _ (Or.inr (by omega))).zRY _ (Or.inr (by omega))).zRY _ (Or.inr (by omega))).zRY _ (Or.inr (by omega))).zRY _ (Or.inr (by omega))).zRY _ (Or.inr (by omega))).zRY _ (Or.inr (by omega))
 ·exact(((((((h1.zRY _ (Or.inr (by omega))).set _).zRY _ (Or.inr (by omega))).zRY _ (Or.inr (by omega))).zRY _ (Or.inr (by omega))).zRY _ (Or.inr (by omega))).zRY _ (Or.inr (by omega))).zRY _ (Or.inr (by omega))
 ·exact(((((((h2.zRY _ (Or.inr (by omega))).zRY _ (Or.inr (by omega))).set _).zRY _ (Or.inr (by omega))).zRY _ (Or.inr (by omega))).zRY _ (Or.inr (by omega))).zRY _ (Or.inr (by omega))).zRY _ (Or.inr (by omega))
 ·exact(((((((h3.zRY _ (Or.inr (by omega))).zRY _ (Or.inr (by omega))).zRY _ (Or.inr (by omega))).set _).zRY _ (Or.inr (by omega))).zRY _ (Or.inr (by omega))).zRY _ (Or.inr (by omega))).zRY _ (Or.inr (by omega))
 ·exact(((((((h4.zRY _ (Or.inr (by omega))).zRY _ (Or.inr (by omega))).zRY _ (Or.inr (by omega))).zRY _ (Or.inr (by omega))).set _).zRY _ (Or.inr (by omega))).zRY _ (Or.inr (by omega))).zRY _ (Or.inr (by omega))
 ·exact(((((((h5.zRY _ (Or.inr (by omega))).zRY _ (Or.inr (by omega))).zRY _ (Or.inr (by omega))).zRY _ (Or.inr (by omega))).zRY _ (Or.inr (by omega))).set _).zRY _ (Or.inr (by omega))).zRY _ (Or.inr (by omega))
 ·exact(((((((h6.zRY _ (Or.inr (by omega))).zRY _ (Or.inr (by omega))).zRY _ (Or.inr (by omega))).zRY _ (Or.inr (by omega))).zRY _ (Or.inr (by omega))).zRY _ (Or.inr (by omega))).set _).zRY _ (Or.inr (by omega))
 ·exact(((((((h7.zRY _ (Or.inr (by omega))).zRY _ (Or.inr (by omega))).zRY _ (Or.inr (by omega))).zRY _ (Or.inr (by omega))).zRY _ (Or.inr (by omega))).zRY _ (Or.inr (by omega))).zRY _ (Or.inr (by omega))).set _
theorem zF.put8(w:World)(b:Nat)(u0 u1 u2 u3 u4 u5 u6 u7:Value):zF (fun k=>k=b) w (put8 w b u0 u1 u2 u3 u4 u5 u6 u7):=
 (((((((zF.put w b 0 u0).trans (zF.put _ b 1 u1)).trans (zF.put _ b 2 u2)).trans (zF.put _ b 3 u3)).trans (zF.put _ b 4 u4)).trans (zF.put _ b 5 u5)).trans (zF.put _ b 6 u6)).trans (zF.put _ b 7 u7)
theorem zB5.put8{w:World}{W:zH}{M n b:Nat}{vd:Nat->Value}(h:zB5 w W M n vd)(hb:M≠b)(u0 u1 u2 u3 u4 u5 u6 u7:Value):zB5 (Go.Proofs.YtmgeglgboadfiaaGreatDoor.put8 w b u0 u1 u2 u3 u4 u5 u6 u7) W M n vd:=
 (((((((World.ownsMap.setCell h hb u0).setCell hb u1).setCell hb u2).setCell hb u3).setCell hb u4).setCell hb u5).setCell hb u6).setCell hb u7
theorem zMS{B:Nat}{w w':World}(h:Below B w w'){b:Nat}(hb:B<=b)(u0 u1 u2 u3 u4 u5 u6 u7:Value):Below B w (put8 w' b u0 u1 u2 u3 u4 u5 u6 u7):=
 (((((((h.setCell hb u0).setCell hb u1).setCell hb u2).setCell hb u3).setCell hb u4).setCell hb u5).setCell hb u6).setCell hb u7
theorem zIR(v0 v1 v2 v3:Value)(lo hi:Nat)(W:zH)(w:World)(h:zk w lo hi v0 v1 v2 v3 W)(hs:W.sn<=8) :
  Calls Tryz.prog 204 #[zz v0 v1 v2 v3 W] w fun e w'=>zG (zPz W) e/\Below w.heap.size w w':=by
 have Hp:=zB h;obtain⟨m1,a,c,rfl,mc,-⟩:=id h.zRe;unfold maxLen at m1;clear h;have ha:=zC w (.cells #[v0,v1,.int .i64 W.time,.int .i64 W.next,v2,.slice a W.pn c] 37);have HB:=zB (zi.zRZ w v0 v1 (.int .i64 W.time) (.int .i64 W.next) v2 (.slice a W.pn c) 37);obtain⟨⟨x0,-⟩,⟨x2,-⟩,⟨x4,-⟩,⟨x6,-⟩,⟨x8,-⟩,⟨dA,-⟩⟩:=HB.out;by_cases hn:W.pn<=20;rotate_left
 ·have bC:(20:Int)<(W.pn:Int):=(by omega);go_enter Tryz.func204,Tryz.ntmps204;go_wp2;go_ret;exact⟨zG.no fun h=>hn h.1,ha⟩
 have bC:¬(20:Int)<(W.pn:Int):=by omega
 go_enter Tryz.func204,Tryz.ntmps204;go_wp2_with fail;clear x0 x2 x4 x6 x8 dA;generalize w.alloc (.cells #[v0,v1,.int .i64 W.time,.int .i64 W.next,v2,.slice a W.pn c] 37)=W0 at ha HB ⊢;refine(zEX v0 v1 v2 _ lo hi W W0 (Hp.out.zRX ha) hs).mono ?_;rintro e w1 ⟨vd,rfl,fA,lB,bB⟩;have mB:∀i,i<W.sn->∃a n c,vd i = .slice a n c:=fun i hi'=>by
  obtain⟨_,aa,cc,hv,_⟩:=lB i hi';exact⟨aa,_,cc,hv⟩
 have mA:=zB (zJc mB);have oA:=zB (zLg (W:=W) (vd:=vd));have rA:=zC w1 (.cells #[.int .i64 0,.string ⟨#[]⟩,.string ⟨#[]⟩,.int .i64 0,.int .i64 0,.int .i64 0,.int .i64 0,.slice none 0 0] 99);have cB:=zB ((HB.out.zRX bB).zRX rA);have vA:=zB (zCP.zRZ w1 (.int .i64 0) (.string ⟨#[]⟩) (.string ⟨#[]⟩) (.int .i64 0) (.int .i64 0) (.int .i64 0) (.int .i64 0) (.slice none 0 0) 99);have fB:=zB (fA.zRX rA);have rB:=zB (zA (zA ha bB) rA);have nB:W0.heap.size+1<w1.heap.size:=fA.lt;have oB:=zB (show w.heap.size<W0.heap.size+1 by have:=HB.out.1.lt;omega);clear fA lB mB bB rA ha HB;obtain⟨⟨x0,-⟩,⟨x2,-⟩,⟨x4,-⟩,⟨x6,-⟩,⟨x8,-⟩,⟨dA,-⟩⟩:=cB.out;go_wp2;clear x0 x2 x4 x6 x8 dA;obtain⟨L,hL⟩:∃L,L=w1.heap.size:=⟨_,rfl⟩;rw[<-hL]at vA nB ⊢;obtain⟨M,hM⟩:∃M,M=W0.heap.size+1:=⟨_,rfl⟩;rw[<-hM]at fB nB oB ⊢;have eC:w.heap.size<L:=by have:=oB.out;omega
 go_loopw [18] (fun i wr=>∃(k:Nat) (al:Option Addr) (nl cl:Nat),k<=W.pn/\i = .int .i64 k/\(∀j,j<k->zH0 W j)/\zCP wr L (.int .i64 (zEi W.zRe k).id) (.string (zEi W.zRe k).name) (.string (zEi W.zRe k).set) (.int .i64 (zEi W.zRe k).zRh) (.int .i64 (zEi W.zRe k).time) (.int .i64 (zEi W.zRe k).rs) (.int .i64 (zEi W.zRe k).rb) (.slice al nl cl)/\zi wr w.heap.size v0 v1 (.int .i64 W.time) (.int .i64 W.next) v2 (.slice a W.pn c)/\zB5 wr W M W.sn vd/\Below w.heap.size w wr) (fun i _=>W.pn - (intOf i).toNat)
 case atStart=>exact⟨0,none,0,0,Nat.zero_le _,rfl,fun j hj=>absurd hj (Nat.not_lt_zero _),vA.out,cB.out,fB.out,rB.out⟩
 case round=>
  clear vA cB fB rB hL hM;obtain⟨k,al,nl,cl,hk,rfl,lA,hV,hX,hM,hb⟩:=hrel;have nA:=zB lA;have HV:=zB hV;have HX:=zB hX;have HM:=zB hM;clear lA hV hX hM;obtain⟨⟨x0,-⟩,⟨x2,-⟩,⟨x4,-⟩,⟨x6,-⟩,⟨x8,-⟩,⟨dA,-⟩⟩:=HX.out;by_cases eA:k<W.pn
  ·have cC:(k:Int)<(W.pn:Int):=(by omega);obtain⟨b,off,dC,rfl,cA⟩:=(Hp.out.zRe.zRX hb).cells eA;obtain⟨-,ad,cd,rfl,-,-⟩:=id cA.zRl;obtain⟨s0,i1,i2,i3,i4,sa,sn,sc,kB⟩:=mA.out (W.zRe k).set;have aB:=zB kB;have iA:=zB (zKC cA.zRn.2);have vB:=cA.zRn.1;clear kB;have sB:wr.heap.size≠L:=(by have:=HV.out.1.1.lt;omega);have jA:=zC wr (.cells #[.int .i64 (W.zRe k).id,.string (W.zRe k).name,.string (W.zRe k).set,.int .i64 (W.zRe k).zRh,.int .i64 (W.zRe k).time,.int .i64 (W.zRe k).rs,.int .i64 (W.zRe k).rb,.slice ad (W.zRe k).dn cd] 99);have kA:=zC (wr.alloc (.cells #[.int .i64 (W.zRe k).id,.string (W.zRe k).name,.string (W.zRe k).set,.int .i64 (W.zRe k).zRh,.int .i64 (W.zRe k).time,.int .i64 (W.zRe k).rs,.int .i64 (W.zRe k).rb,.slice ad (W.zRe k).dn cd] 99)) (.cells #[.string s0,.int .i64 i1,.int .i64 i2,.int .i64 i3,.int .i64 i4,.slice sa sn sc] 67);have sA:=zB (zCP.zRZ wr (.int .i64 (W.zRe k).id) (.string (W.zRe k).name) (.string (W.zRe k).set) (.int .i64 (W.zRe k).zRh) (.int .i64 (W.zRe k).time) (.int .i64 (W.zRe k).rs) (.int .i64 (W.zRe k).rb) (.slice ad (W.zRe k).dn cd) 99);have gB:=zB (HM.out.zRX jA);have pA:=zB (sA.out.zRX kA);have eB:=zB ((HV.out.zRX jA).zRX kA);have tA:=zB ((HX.out.zRX jA).zRX kA);have pB:=zB ((HM.out.zRX jA).zRX kA);have gA:=zA (zA hb jA) kA;have iB:((wr.alloc (.cells #[.int .i64 (W.zRe k).id,.string (W.zRe k).name,.string (W.zRe k).set,.int .i64 (W.zRe k).zRh,.int .i64 (W.zRe k).time,.int .i64 (W.zRe k).rs,.int .i64 (W.zRe k).rb,.slice ad (W.zRe k).dn cd] 99)).alloc (.cells #[.string s0,.int .i64 i1,.int .i64 i2,.int .i64 i3,.int .i64 i4,.slice sa sn sc] 67)).heap.size=wr.heap.size+2:=(by rw[World.size_alloc,World.size_alloc]);have q0:=cA.c0;have q1:=cA.c1;have q2:=cA.c2;have q3:=cA.c3;have q4:=cA.c4;have q5:=cA.c5;have q6:=cA.c6;have q7:=cA.c7;obtain⟨⟨⟨y0,-⟩,⟨y1,-⟩,⟨y2,-⟩,⟨y3,-⟩⟩,⟨y4,-⟩,⟨y5,-⟩,⟨y6,-⟩,⟨y7,-⟩⟩:=sA.out;obtain⟨⟨⟨z0,-⟩,⟨z1,-⟩,⟨z2,-⟩,⟨z3,-⟩⟩,⟨z4,-⟩,⟨z5,-⟩,⟨z6,-⟩,⟨z7,-⟩⟩:=pA.out;clear cA;by_cases bA:zAS W (W.zRe k).set;rotate_left
   ·have Hc:=zB (show Maps.has (putD (fun i=>zC4 (W.zRg i).name) (fun i=>zDU (vd i) (W.zRg i)) W.sn) (zC4 (W.zRe k).set)=false by rw[Bool.eq_false_iff];exact fun h=>bA ((oA.out _).1 h));have Hn:=zB (show ¬zH0 W k from fun h=>bA h.1);clear bA;go_wp2_with (first
     | (at_lookup;refine yy _ rfl _ _ 177 rfl 9 67 zOy zLF (zF8 _) M W.sn _ rfl gB.out _ _ rfl iA.out _ aB.out false Hc.out ?_)
     | go_in)
    go_ret;exact⟨zG.no fun h=>Hn.out (h.2.1 k eA),gA⟩
   have dB:=zB bA;have Hc:=zB ((oA.out _).2 bA);clear bA;go_wp2_with (first
    | (at_lookup;refine yy _ rfl _ _ 177 rfl 9 67 zOy zLF (zF8 _) M W.sn _ rfl gB.out _ _ rfl iA.out _ aB.out true Hc.out ?_)
    | fail)
   clear x0 x2 x4 x6 x8 dA y0 y1 y2 y3 y4 y5 y6 y7 z0 z1 z2 z3 z4 z5 z6 z7 q0 q1 q2 q3 q4 q5 q6 q7 sA gB HV HX HM hb jA kA iA aB Hc;generalize (wr.alloc (.cells #[.int .i64 (W.zRe k).id,.string (W.zRe k).name,.string (W.zRe k).set,.int .i64 (W.zRe k).zRh,.int .i64 (W.zRe k).time,.int .i64 (W.zRe k).rs,.int .i64 (W.zRe k).rb,.slice ad (W.zRe k).dn cd] 99)).alloc (.cells #[.string s0,.int .i64 i1,.int .i64 i2,.int .i64 i3,.int .i64 i4,.slice sa sn sc] 67)=W2 at pA eB tA pB gA iB ⊢;generalize wr.heap.size=V8 at pA sB ⊢;obtain⟨⟨x0,-⟩,⟨x2,-⟩,⟨x4,-⟩,⟨x6,-⟩,⟨x8,-⟩,⟨dA,-⟩⟩:=tA.out;obtain⟨⟨⟨z0,-⟩,⟨z1,-⟩,⟨z2,-⟩,⟨z3,-⟩⟩,⟨z4,-⟩,⟨z5,-⟩,⟨z6,-⟩,⟨z7,-⟩⟩:=pA.out;obtain⟨⟨⟨l0,m0⟩,⟨l1,n1⟩,⟨l2,n2⟩,⟨l3,n3⟩⟩,⟨l4,n4⟩,⟨l5,n5⟩,⟨l6,n6⟩,⟨l7,n7⟩⟩:=eB.out;refine(zD4 (W.zRe k).name _ vB).mono ?_;rintro e wn ⟨⟨tn,rfl,aA⟩,rfl⟩;by_cases hA:yI (W.zRe k).name;rotate_left
   ·have Hn:=zB (show ¬zH0 W k from fun h=>hA h.2.1);obtain rfl:tn=false:=zQ aA hA;clear aA hA;go_wp2;go_ret;exact⟨zG.no fun h=>Hn.out (h.2.1 k eA),gA⟩
   have HA:=zB hA;obtain rfl:tn=true:=aA.2 hA;clear aA hA;by_cases hg:(W.zRe k).id<=(W.zRe k).zRh
   ·have Hn:=zB (show ¬zH0 W k from fun h=>by have:=h.2.2.1;omega);go_wp2;go_ret;exact⟨zG.no fun h=>Hn.out (h.2.1 k eA),gA⟩
   have Hg:=zB (show(W.zRe k).zRh<(W.zRe k).id by omega);go_wp2_with fail;clear hg;refine(zHH _ _ _ _).mono ?_;rintro e wn ⟨⟨tn,rfl,aA⟩,rfl⟩;by_cases hB:Mid (zEi W.zRe k).id (W.zRe k).id W.next;rotate_left
   ·have Hn:=zB (show ¬zH0 W k from fun h=>hB h.2.2.2.1);obtain rfl:tn=false:=zQ aA hB;clear aA hB;go_wp2;go_ret;exact⟨zG.no fun h=>Hn.out (h.2.1 k eA),gA⟩
   have HB:=zB hB;obtain rfl:tn=true:=aA.2 hB;clear aA hB;go_wp2_with fail;refine(zHH _ _ _ _).mono ?_;rintro e wn ⟨⟨tn,rfl,aA⟩,rfl⟩;by_cases hB:Mid (zEi W.zRe k).time (W.zRe k).time W.time;rotate_left
   ·have Hn:=zB (show ¬zH0 W k from fun h=>hB h.2.2.2.2);obtain rfl:tn=false:=zQ aA hB;clear aA hB;go_wp2;go_ret;exact⟨zG.no fun h=>Hn.out (h.2.1 k eA),gA⟩
   have aC:=zB hB;obtain rfl:tn=true:=aA.2 hB;clear aA hB;go_wp2;go_roundw
   case rel=>exact⟨k+1,_,_,_,by omega,by go_num,zo eA nA.out ⟨dB.out,HA.out,Hg.out,HB.out,aC.out⟩,eB.out.put _ _ _ _ _ _ _ _,tA.out.zRf (zF.put8 _ L _ _ _ _ _ _ _ _) (by omega),pB.out.put8 (by omega) _ _ _ _ _ _ _ _,zMS gA (by omega) _ _ _ _ _ _ _ _⟩
   case measure=>simp[intOf];omega
  ·obtain rfl:k=W.pn:=(by omega);go_wp2_with fail;clear x0 x2 x4 x6 x8 dA;refine(zHe _ W.pn lo hi W.zRe _ (Hp.out.zRe.zRX hb) hn).mono ?_;rintro e w6 ⟨⟨t6,rfl,jB⟩,tB⟩;have Ht:=zB jB;clear jB;go_wp2;go_ret;exact⟨⟨t6,rfl,Ht.out.trans ⟨fun hA=>⟨hn,nA.out,hA⟩,fun hA=>hA.2.2⟩⟩,zA hb tB⟩
def zCU(W:zH):Prop:=∀i,i<W.pn->∀j,j<i->(W.zRe j).id≠(W.zRe i).id
def zBW(w:World)(lo hi:Nat)(W:zH)(A:Nat):Prop:=∃M vd,zW w A 0 (.map (some M))/\zCi w W M W.pn vd/\zEv w lo hi W.pn W.zRe vd
abbrev zGX(A:Nat):Value:=.func (.func 190) #[] #[.pointer (some ⟨A,0,none⟩)]
theorem zBW.zRX{w w':World}{lo hi:Nat}{W:zH}{A:Nat}(h:zBW w lo hi W A)(t:Below w.heap.size w w'):zBW w' lo hi W A:=by
 obtain⟨M,vd,h1,h2,h3⟩:=h;exact⟨M,vd,h1.zRX t,h2.zRX t,fun i hi'=>(h3 i hi').zRX t⟩
theorem zOp(w:World):(zeroValue 99).run Tryz.prog w = .ok (.agg #[.int .i64 0,.string ⟨#[]⟩,.string ⟨#[]⟩,.int .i64 0,.int .i64 0,.int .i64 0,.int .i64 0,.slice none 0 0]) w:=by kernel_rfl
theorem zM8{W:zH}{w:World}{lo hi:Nat}{vd:Nat->Value}(hD:zCU W)(hd:zEv w lo hi W.pn W.zRe vd)(x:Int):∃a c,(putD (fun i=>zKk (W.zRe i).id) (fun i=>yd (vd i) (W.zRe i)) W.pn).atKey (zKk x) (.held (.agg #[.int .i64 0,.string ⟨#[]⟩,.string ⟨#[]⟩,.int .i64 0,.int .i64 0,.int .i64 0,.int .i64 0,.slice none 0 0])) = .held (yd (.slice a (zN W x).dn c) (zN W x))/\zU w lo hi (.slice a (zN W x).dn c) (zN W x).dn (zN W x).ds (zN W x).db:=by
 have hk:zDj (fun i=>zKk (W.zRe i).id):=fun i=>zPf _
 by_cases hx:∃k,qs W x k
 ·obtain⟨k,aA⟩:=hx;rw[qq aA];have hp:=hd k aA.1;obtain⟨_,a,c,hv,_⟩:=id hp;refine⟨a,c,?_,by rw[<-hv];exact hp⟩;have:=zK2 hk (fun i=>yd (vd i) (W.zRe i)) (.held (.agg #[.int .i64 0,.string ⟨#[]⟩,.string ⟨#[]⟩,.int .i64 0,.int .i64 0,.int .i64 0,.int .i64 0,.slice none 0 0])) W.pn k aA.1 (fun j h1 h2 e=>hD j h2 k h1 (zLJ e).symm);rw[aA.2.1]at this;rw[this,hv]
 ·have e:zN W x=yK:=(by unfold zN;rw[dif_neg hx]);rw[e];refine⟨none,0,?_,⟨Nat.zero_le _,none,0,rfl,Nat.le_refl _,fun h=>absurd h (by simp[yK])⟩⟩;refine zGs hk _ (fun i hi' e2=>?_) _;exact hx (zGY (Nat.le_refl _) ⟨i,hi',zLJ e2⟩)
theorem zBt(lo hi:Nat)(W:zH)(A:Nat)(x:Int)(w:World)(h:zBW w lo hi W A)(hD:zCU W)(hx:(Lit.int .i64 x).wf=true)(hn:W.pn<=20) :
  Calls Tryz.prog 190 #[.int .i64 x,.pointer (some ⟨A,0,none⟩)] w fun e w'=>∃a c,e = .returned (yd (.slice a (zN W x).dn c) (zN W x))/\zU w lo hi (.slice a (zN W x).dn c) (zN W x).dn (zN W x).ds (zN W x).db/\Below w.heap.size w w':=by
 obtain⟨M,vd,hc,hm,hd⟩:=h;obtain⟨a,c,dA,hp⟩:=zM8 hD hd x;have eA:=zB dA;have fA:=zB hp;have cA:=zB (zNk hx);clear dA hp hd hx;unfold yd at eA ⊢;generalize zN W x=S at *;have aA:=zC w (.cells #[.int .i64 0,.string ⟨#[]⟩,.string ⟨#[]⟩,.int .i64 0,.int .i64 0,.int .i64 0,.int .i64 0,.slice none 0 0] 99);have HM:=zB (hm.zRX aA);obtain⟨x0,-⟩:=hc.zRX aA;have bA:=zC w (.cells #[.int .i64 S.id,.string S.name,.string S.set,.int .i64 S.zRh,.int .i64 S.time,.int .i64 S.rs,.int .i64 S.rb,.slice a S.dn c] 99);obtain⟨⟨⟨y0,-⟩,⟨y1,-⟩,⟨y2,-⟩,⟨y3,-⟩⟩,⟨y4,-⟩,⟨y5,-⟩,⟨y6,-⟩,⟨y7,-⟩⟩:=zCP.zRZ w (.int .i64 S.id) (.string S.name) (.string S.set) (.int .i64 S.zRh) (.int .i64 S.time) (.int .i64 S.rs) (.int .i64 S.rb) (.slice a S.dn c) 99;clear hm hc aA;go_enter Tryz.func190,Tryz.ntmps190;go_wp2_with (first
  | (at_lookup;refine zGI _ rfl _ _ 218 rfl 2 99 zRB zP6 (zOp _) M W.pn _ rfl HM.out _ _ rfl cA.out _ eA.out ?_)
  | go_in)
 refine bodyPost_ret (v:=.agg #[.int .i64 S.id,.string S.name,.string S.set,.int .i64 S.zRh,.int .i64 S.time,.int .i64 S.rs,.int .i64 S.rb,.slice a S.dn c]) (by simp[results,Tryz.results190,go_sem,y0,y1,y2,y3,y4,y5,y6,y7]) rfl ⟨a,c,rfl,fA.out,bA⟩
theorem zG2(v0 v1 v2 v3:Value)(lo hi:Nat)(W:zH)(w:World)(h:zk w lo hi v0 v1 v2 v3 W)(hn:W.pn<=20)(fA:zNW W.pn W.zRe) :
  Calls Tryz.prog 152 #[zz v0 v1 v2 v3 W] w fun e w'=>∃A,e = .returned (zGX A)/\zBW w' lo hi W A/\Below w.heap.size w w':=by
 have Hp:=zB h;clear h;have gA:∀(fn:Fn) (first cA:Array Value) (w:World),(Instr.makeFunc fn first cA).run Tryz.prog w = .ok (.func fn first cA) w:=fun _ _ _ _=>rfl
 have ha:=zC w (.cells #[v0,v1,.int .i64 W.time,.int .i64 W.next,v2,v3] 37);obtain⟨⟨x0,-⟩,⟨x2,-⟩,⟨x4,-⟩,⟨x6,-⟩,⟨x8,-⟩,⟨eA,-⟩⟩:=zi.zRZ w v0 v1 (.int .i64 W.time) (.int .i64 W.next) v2 v3 37;go_enter Tryz.func152,Tryz.ntmps152;go_wp2_with fail;clear x0 x2 x4 x6 x8 eA;generalize w.alloc (.cells #[v0,v1,.int .i64 W.time,.int .i64 W.next,v2,v3] 37)=W0 at ha ⊢;refine(zIr v0 v1 v2 v3 lo hi W W0 (Hp.out.zRX ha) hn fA).mono ?_;rintro e w1 ⟨vd,rfl,hm,hd,bA⟩;have aA:=zC w1 (.cells #[.map (some (W0.heap.size+1))] 218);have hc:zW (w1.alloc (.cells #[.map (some (W0.heap.size+1))] 218)) w1.heap.size 0 (.map (some (W0.heap.size+1))):=zJ (heap_alloc_new _ _) rfl;have HA:=zB (show zBW (w1.alloc (.cells #[.map (some (W0.heap.size+1))] 218)) lo hi W w1.heap.size from⟨_,vd,hc,hm.zRX aA,fun i hi'=>((hd i hi').zRX bA).zRX aA⟩);have dA:=zA (zA ha bA) aA;clear hm hd bA aA hc;go_wp2;go_ret;exact⟨_,rfl,HA.out,dA⟩
end Go.Proofs.YtmgeglgboadfiaaGreatDoor
