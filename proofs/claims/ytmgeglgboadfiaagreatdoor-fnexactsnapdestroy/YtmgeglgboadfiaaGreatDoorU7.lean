/- A part of the proof. -/
import Derived.Test.YtmgeglgboadfiaaGreatDoorU6
import Derived.WideKeyPair
import Derived.DeepKeys4
set_option linter.unusedVariables false
set_option maxRecDepth 20000
set_option maxHeartbeats 4000000
namespace Go.Proofs.YtmgeglgboadfiaaGreatDoor
open Go.RowKit Go.Maps
open Classical in
noncomputable def yH(W:zE)(name:ByteArray):Nat->Nat
 | 0=>0
 | k+1=>yH W name k+(if (W.zPD k).set=name then 1 else 0)
theorem zDZ{W:zE}{name:ByteArray}{k:Nat}(h:(W.zPD k).set=name):yH W name (k+1)=yH W name k+1:=by simp[yH,h]
theorem zGD{W:zE}{name:ByteArray}{k:Nat}(h:¬(W.zPD k).set=name):yH W name (k+1)=yH W name k:=by simp[yH,h]
theorem zGC(W:zE)(name:ByteArray):∀k,yH W name k<=k
 | 0=>Nat.le_refl _
 | k+1=>by
  have:=zGC W name k;by_cases h:(W.zPD k).set=name
  ·rw[zDZ h];omega
  ·rw[zGD h];omega
inductive zAD (W:zE) (name:ByteArray) (start:Int):Nat->Int->Prop
 | zero:zAD W name start 0 start
 | next {n:Nat} {x:Int} {k:Nat}:zAD W name start n x->qM W x k->(W.zPD k).set=name->zAD W name start (n+1) (W.zPD k).zPH
def zEh(W:zE)(name:ByteArray)(x:Int):Prop:=∃k,qM W x k/\(W.zPD k).set=name
def zAe(W:zE)(name:ByteArray)(start origin:Int):Prop:=∃n e,zAD W name start n e/\¬zEh W name e/\n=yH W name W.pn/\e=origin
theorem zAD.det{W:zE}{name:ByteArray}{start:Int}:∀{n:Nat} {x y:Int},zAD W name start n x->zAD W name start n y->x=y
 | 0,_,_,.zero,.zero=>rfl
 | n+1,_,_,.next h hk _,.next h' hk' _=>by
  have e:=zAD.det h h';subst e;rw[qM.uniq hk hk']
theorem zAD.less{W:zE}{name:ByteArray}{start:Int}:∀{n m:Nat} {x:Int},zAD W name start m x->n<m->∃y,zAD W name start n y/\zEh W name y
 | n,0,_,_,h=>absurd h (Nat.not_lt_zero _)
 | n,m+1,_,.next (x:=x) h hk hs,hl=>by
  by_cases e:n=m
  ·subst e;exact⟨x,h,_,hk,hs⟩
  ·exact zAD.less h (by omega)
theorem zAD.end{W:zE}{name:ByteArray}{start:Int}{n m:Nat}{x y:Int}(h:zAD W name start n x)(hx:¬zEh W name x)(h':zAD W name start m y)(hy:¬zEh W name y):n=m/\x=y:=by
 have e:n=m:=by
  rcases Nat.lt_trichotomy n m with hl | hl | hl
  ·obtain⟨z,hz,ho⟩:=h'.less hl;rw[h.det hz]at hx;exact absurd ho hx
  ·exact hl
  ·obtain⟨z,hz,ho⟩:=h.less hl;rw[h'.det hz]at hy;exact absurd ho hy
 subst e;exact⟨rfl,h.det h'⟩
theorem zB0{W:zE}{name:ByteArray}{start origin:Int}{n:Nat}{x:Int}(h:zAD W name start n x)(hx:¬zEh W name x):zAe W name start origin↔n=yH W name W.pn/\x=origin:=by
 constructor
 ·rintro⟨m,y,hs,hy,h1,h2⟩;obtain⟨rfl,rfl⟩:=h.end hx hs hy;exact⟨h1,h2⟩
 ·rintro⟨h1,h2⟩;exact⟨n,x,h,hx,h1,h2⟩
theorem zGV{W:zE}{x r:Int}{k:Nat}(hk:qM W x k)(h:zEe W.pn (fun k=>(W.zPD k).id=x) r):r=(k:Int):=by
 rcases h with⟨j,hj,e,hm,rfl⟩ | ⟨hn,_⟩
 ·rw[qM.uniq hk ⟨hj,e,hm⟩]
 ·exact absurd hk.2.1 (hn k hk.1)
theorem qD.no{W:zE}{x:Int}(h:qD W x):∃k,qM W x k:=zFe (Nat.le_refl _) h
structure zBX (W:zE):Prop where
 ids:∀k,k<W.pn->1<=(W.zPD k).id/\(W.zPD k).id<900000
 zPH:∀k,k<W.pn->(W.zPD k).zPH=0\/qD W (W.zPD k).zPH
 less:∀k,k<W.pn->(W.zPD k).zPH<(W.zPD k).id
 zPG:∀k,k<W.sn->(W.zPG k).zPH=0\/qD W (W.zPG k).zPH
 zPL:∀k,k<W.sn->(W.zPG k).name.toList.isEmpty=false
theorem zBX.pos{W:zE}(h:zBX W):zBn W:=fun k hk=>(h.ids k hk).1
theorem qD.range{W:zE}(h:zBX W){x:Int}(hx:qD W x):1<=x/\x<900000:=by
 obtain⟨k,hk,rfl⟩:=hx;exact h.ids k hk
theorem zCN{s:ByteArray}(h:yE s):s.toList.isEmpty=false:=by
 have:=h.1;rw[Go.ByteArray.toList_eq];cases s with
 | mk d=>
  cases hd:d.toList with
  | nil=>
   have h0:d.size=0:=(by rw[<-Array.length_toList,hd];rfl);have h1:1<=d.size:=this;omega
  | cons a l=>simp
theorem zAi.prevOk{W:zE}(h:zAi W):zBX W where
 ids:=fun k hk=>⟨(h.2.2.2.2.2 k hk).1.1,by have:=(h.2.2.2.2.2 k hk).1.2.1;have:=h.2.1.2;omega⟩
 zPH:=fun k hk=>by
  by_cases e:(W.zPD k).zPH=0
  ·exact Or.inl e
  ·exact Or.inr ((h.2.2.2.2.2 k hk).2.1.2 e).2
 less:=fun k hk=>by
  by_cases e:(W.zPD k).zPH=0
  ·have:=(h.2.2.2.2.2 k hk).1.1;omega
  ·exact((h.2.2.2.2.2 k hk).2.1.2 e).1
 zPG:=fun k hk=>by
  by_cases e:(W.zPG k).zPH=0
  ·exact Or.inl e
  ·exact Or.inr ((h.2.2.2.2.1 k hk).2.2.1 e)
 zPL:=fun k hk=>zCN (h.2.2.2.2.1 k hk).1
structure zBq (W:zE) (name:ByteArray) (start:Int) (n:Nat) (x:Int):Prop where
 steps:zAD W name start n x
 there:x=0\/qD W x
 least:0<=x
 sum:(n:Int)+x<=900000
theorem zBq.start{W:zE}(h:zBX W)(name:ByteArray){x:Int}(hx:x=0\/qD W x):zBq W name x 0 x where
 steps:=.zero
 there:=hx
 least:=by rcases hx with rfl | hx;exact Int.le_refl _;have:=hx.range h;omega
 sum:=by rcases hx with rfl | hx;decide;have:=hx.range h;omega
theorem zBq.next{W:zE}(h:zBX W){name:ByteArray}{start:Int}{n:Nat}{x:Int}(hw:zBq W name start n x){k:Nat}(hk:qM W x k)(hs:(W.zPD k).set=name):zBq W name start (n+1) (W.zPD k).zPH where
 steps:=hw.steps.next hk hs
 there:=h.zPH k hk.1
 least:=by rcases h.zPH k hk.1 with e | e;omega;have:=e.range h;omega
 sum:=by have h1:=h.less k hk.1;have h2:=hw.sum;have h3:=hk.2.1;omega
theorem zJB{W:zE}(h:zBX W)(name:ByteArray):¬zEh W name 0:=fun ⟨k,hk,_⟩=>by
 have:=(h.ids k hk.1).1;have:=hk.2.1;omega
theorem zLD{W:zE}{name:ByteArray}{x:Int}{k:Nat}(hk:qM W x k)(hs:¬(W.zPD k).set=name):¬zEh W name x:=fun ⟨j,hj,e⟩=>hs (by rw[qM.uniq hk hj];exact e)
theorem zHf(v0 v1 v2 v3:Value)(lo hi:Nat)(W:zE)(w:World)(h:zd w lo hi v0 v1 v2 v3 W)(hP:zBX W)(hs:W.sn<=8)(hp:W.pn<=20) :
  Calls Tryz.prog 70 #[zt v0 v1 v2 v3 W] w fun e w'=>zG (∀i,i<W.sn->zAe W (W.zPG i).name (W.zPG i).zPH (W.zPG i).origin) e/\Below w.heap.size w w':=by
 have Hp:=zB h;have HP:=zB hP;obtain⟨m1,a,c,rfl,mc,-⟩:=id h.zPD;obtain⟨m2,a',c',rfl,bC,-⟩:=id h.zPG;unfold maxLen at m1 m2;clear h hP;have ha:=zC w (.cells #[v0,v1,.int .i64 W.time,.int .i64 W.next,.slice a' W.sn c',.slice a W.pn c] 37);have HB:=zB (zg.new w v0 v1 (.int .i64 W.time) (.int .i64 W.next) (.slice a' W.sn c') (.slice a W.pn c) 37);go_enter Tryz.func70,Tryz.ntmps70;go_wp2
 go_loopw [3] (fun i wr=>∃k:Nat,k<=W.sn/\i = .int .i64 k/\(∀j,j<k->zAe W (W.zPG j).name (W.zPG j).zPH (W.zPG j).origin)/\zg wr w.heap.size v0 v1 (.int .i64 W.time) (.int .i64 W.next) (.slice a' W.sn c') (.slice a W.pn c)/\Below w.heap.size w wr) (fun i _=>W.sn - (intOf i).toNat)
 case atStart=>exact⟨0,Nat.zero_le _,rfl,fun j hj=>absurd hj (Nat.not_lt_zero _),HB.out,ha⟩
 case round=>
  obtain⟨k,hk,rfl,mA,hX,hb⟩:=hrel;have fA:=zB mA;have HX:=zB hX;clear mA hX ha HB;obtain⟨⟨x0,-⟩,⟨x2,-⟩,⟨x4,-⟩,⟨x6,-⟩,⟨x8,-⟩,⟨jA,-⟩⟩:=HX.out;by_cases cA:k<W.sn;rotate_left
  ·obtain rfl:k=W.sn:=(by omega);go_wp2;go_ret;exact⟨zG.yes fA.out,hb⟩
  have mB:(k:Int)<(W.sn:Int):=(by omega);obtain⟨b,off,vd,rfl,-⟩:=(Hp.out.zPG.zO9 hb).cells cA;go_wp2;clear x0 x2 x4 x6 x8 jA
  go_loopw [5,6] (fun o i wr=>∃j:Nat,j<=W.pn/\i = .int .i64 j/\o = .int .i64 (yH W (W.zPG k).name j)/\zg wr w.heap.size v0 v1 (.int .i64 W.time) (.int .i64 W.next) (.slice (some ⟨b,off,none⟩) W.sn c') (.slice a W.pn c)/\Below w.heap.size w wr) (fun _ i _=>W.pn - (intOf i).toNat)
  case atStart=>exact⟨0,Nat.zero_le _,rfl,rfl,HX.out,hb⟩
  case round=>
   clear HX hb;obtain⟨j,hj,rfl,rfl,hX,hb⟩:=hrel;have HX:=zB hX;clear hX;obtain⟨⟨x0,-⟩,⟨x2,-⟩,⟨x4,-⟩,⟨x6,-⟩,⟨x8,-⟩,⟨jA,-⟩⟩:=HX.out;obtain⟨b',dB,oB,e',eA⟩:=(Hp.out.zPG.zO9 hb).cells cA;cases e';have n0:=eA.c0;have n1:=eA.c1;have n2:=eA.c2;clear eA;have vB:=zGC W (W.zPG k).name j;by_cases jB:j<W.pn
   ·have kB:(j:Int)<(W.pn:Int):=(by omega);obtain⟨b2,aA,pB,rfl,kA⟩:=(Hp.out.zPD.zO9 hb).cells jB;have q2:=kA.c2;clear kA;have rB:((yH W (W.zPG k).name j:Nat):Int)<1000:=(by omega);by_cases he:(W.zPD j).set=(W.zPG k).name
    ·have f1:=zCS he;have H1:=zB (zDZ he);clear he;go_wp2
     go_quiet (fail)
     go_wp2;go_roundw
     case rel=>exact⟨j+1,by omega,by go_num,by rw[H1.out];go_num,HX.out.zO9 (zh (Below.refl _ _) _),zh hb _⟩
     case measure=>simp[intOf];omega
    ·have f1:=zEY he;have H1:=zB (zGD he);clear he;go_wp2
     go_quiet (fail)
     go_wp2;go_roundw
     case rel=>exact⟨j+1,by omega,by go_num,by rw[H1.out],HX.out.zO9 (zh (Below.refl _ _) _),zh hb _⟩
     case measure=>simp[intOf];omega
   ·obtain rfl:j=W.pn:=(by omega);go_wp2;clear x0 x2 x4 x6 x8 jA n0 n1 n2
    go_loopw [4,7] (fun i x wr=>∃(n:Nat) (y:Int),i = .int .i64 n/\x = .int .i64 y/\zBq W (W.zPG k).name (W.zPG k).zPH n y/\zg wr w.heap.size v0 v1 (.int .i64 W.time) (.int .i64 W.next) (.slice (some ⟨b,off,none⟩) W.sn c') (.slice a W.pn c)/\Below w.heap.size w wr) (fun _ x _=>(intOf x).toNat)
    case atStart=>exact⟨0,_,rfl,rfl,zBq.start HP.out _ (HP.out.zPG k cA),HX.out,hb⟩
    case round=>
     clear HX hb;obtain⟨n,y,rfl,rfl,hw,hX,hb⟩:=hrel;have HX:=zB hX;have Hw:=zB hw;have nB:=hw.sum;have sB:=hw.least;clear hX hw;obtain⟨⟨x0,-⟩,⟨x2,-⟩,⟨x4,-⟩,⟨x6,-⟩,⟨x8,-⟩,⟨jA,-⟩⟩:=HX.out;obtain⟨b',dB,oB,e',eA⟩:=(Hp.out.zPG.zO9 hb).cells cA;cases e';have n0:=eA.c0;have n1:=eA.c1;clear eA;by_cases hz:y=0
     ·have gA:=zB (show ¬zEh W (W.zPG k).name y by rw[hz];exact zJB HP.out _);have rA:(y == 0)=true:=(by simp[hz]);have sA:decide (y=0)=true:=(by simp[hz]);have tA:(y != 0)=false:=(by simp[hz]);clear hz;go_wp2_with fail
      go_quiet (fail)
      clear rA sA tA;have dA:=zB HX.out;clear x0 x2 x4 x6 x8 jA;obtain⟨⟨e0,-⟩,⟨e2,-⟩,⟨e4,-⟩,⟨e6,-⟩,⟨e8,-⟩,⟨vA,-⟩⟩:=dA.out;by_cases h1:n=yH W (W.zPG k).name W.pn
      ·by_cases h2:y=(W.zPG k).origin
       ·have Hl:=zB ((zB0 (origin:=(W.zPG k).origin) Hw.out.steps gA.out).2 ⟨h1,h2⟩);have g1:((n:Int) == (yH W (W.zPG k).name W.pn:Int))=true:=(by simp[h1]);have g2:((n:Int) != (yH W (W.zPG k).name W.pn:Int))=false:=(by simp[h1]);have g3:decide ((n:Int)=(yH W (W.zPG k).name W.pn:Int))=true:=(by simp[h1]);have g4:(y == (W.zPG k).origin)=true:=(by simp[h2]);have g5:(y != (W.zPG k).origin)=false:=(by simp[h2]);have g6:decide (y=(W.zPG k).origin)=true:=(by simp[h2]);clear h1 h2;go_wp2;go_roundw
        case rel=>exact⟨k+1,by omega,by go_num,zr cA fA.out Hl.out,HX.out.zO9 (zh (Below.refl _ _) _),zh hb _⟩
        case measure=>simp[intOf];omega
       ·have Hl:=zB (show ¬zAe W (W.zPG k).name (W.zPG k).zPH (W.zPG k).origin from fun h=>h2 ((zB0 Hw.out.steps gA.out).1 h).2);have g1:((n:Int) == (yH W (W.zPG k).name W.pn:Int))=true:=(by simp[h1]);have g2:((n:Int) != (yH W (W.zPG k).name W.pn:Int))=false:=(by simp[h1]);have g3:decide ((n:Int)=(yH W (W.zPG k).name W.pn:Int))=true:=(by simp[h1]);have g4:(y == (W.zPG k).origin)=false:=(by simp[h2]);have g5:(y != (W.zPG k).origin)=true:=(by simp[h2]);have g6:decide (y=(W.zPG k).origin)=false:=(by simp[h2]);clear h1 h2;go_wp2;go_ret;exact⟨zG.no fun hA=>Hl.out (hA k cA),zh hb _⟩
      ·have Hl:=zB (show ¬zAe W (W.zPG k).name (W.zPG k).zPH (W.zPG k).origin from fun h=>h1 ((zB0 Hw.out.steps gA.out).1 h).1);have h3:¬(n:Int)=(yH W (W.zPG k).name W.pn:Int):=(by omega);have g1:((n:Int) == (yH W (W.zPG k).name W.pn:Int))=false:=(by simp[h3]);have g2:((n:Int) != (yH W (W.zPG k).name W.pn:Int))=true:=(by simp[h3]);have g3:decide ((n:Int)=(yH W (W.zPG k).name W.pn:Int))=false:=(by simp[h3]);clear h1 h3;go_wp2;go_ret;exact⟨zG.no fun hA=>Hl.out (hA k cA),zh hb _⟩
     ·obtain⟨kk,pA⟩:=(Hw.out.there.resolve_left hz).no;have lA:=zB pA;have aB:kk<W.pn:=pA.1;have lB:(kk:Int)<(W.pn:Int):=(by omega);have bB:=(HP.out.ids kk aB).1;have cB:=pA.2.1;have aC:1<=y:=(by omega);have oA:=HP.out.less kk aB;have gB:=zB (show(W.zPD kk).zPH<y by omega);clear pA bB cB oA;have rA:(y == 0)=false:=(by simp[hz]);have sA:decide (y=0)=false:=(by simp[hz]);have tA:(y != 0)=true:=(by simp[hz]);clear hz;obtain⟨b2,aA,pB,rfl,kA⟩:=(Hp.out.zPD.zO9 hb).cells aB;have q2:=kA.c2;have q3:=kA.c3;clear kA;by_cases he:(W.zPD kk).set=(W.zPG k).name
      ·have eB:=zB (Hw.out.next HP.out lA.out he);rw[he]at q2;clear he;go_wp2_with fail;go_region_held3 (fun w'=>w'.cell? ⟨w.heap.size,0,none⟩=some v0/\w'.cell? ⟨w.heap.size,1,none⟩=some v1/\w'.cell? ⟨w.heap.size,2,none⟩=some (.int .i64 W.time)/\w'.cell? ⟨w.heap.size,3,none⟩=some (.int .i64 W.next)/\w'.cell? ⟨w.heap.size,4,none⟩=some (.slice (some ⟨b,off,none⟩) W.sn c')/\w'.cell? ⟨w.heap.size,5,none⟩=some (.slice (some ⟨b2,aA,none⟩) W.pn c)/\w'.cell? ⟨b2,aA+kk*8+2,none⟩=some (.string (W.zPG k).name)/\w'.cell? ⟨b,off+k*6,none⟩=some (.string (W.zPG k).name)) (go_keep)
        (first | (go_at_call 49;refine(zw v0 v1 _ _ lo hi W y _ ?_).mono ?_;(exact(Hp.out.zO9 hb).zO9 (Below.refl _ _).drew);rintro e w6 ⟨r,rfl,hF,bA⟩;obtain rfl:=zGV lA.out hF;obtain⟨⟨y0,_⟩,⟨y1,_⟩,⟨y2,_⟩,⟨y3,_⟩,⟨y4,_⟩,⟨y5,_⟩⟩:=HX.out.zO9 (zI bA);have z2:=(bA.cell (p:=⟨b2,aA+kk*8+2,none⟩) (zD q2)).trans q2;have z0:=(bA.cell (p:=⟨b,off+k*6,none⟩) (zD n0)).trans n0))
       have dA:=zB (HX.out.zO9 (zI bA));have iA:=qZ hb bA;have z3:=(bA.cell (p:=⟨b2,aA+kk*8+3,none⟩) (zD q3)).trans q3;have z1:=(bA.cell (p:=⟨b,off+k*6+1,none⟩) (zD n1)).trans n1;clear bA HX hb hF y0 y1 y2 y3 y4 y5 x0 x2 x4 x6 x8 jA q2 q3 n0 n1 rA sA tA;have tB:(n:Int)<1000000:=(by omega);obtain⟨⟨e0,-⟩,⟨e2,-⟩,⟨e4,-⟩,⟨e6,-⟩,⟨e8,-⟩,⟨vA,-⟩⟩:=dA.out;go_wp2_with fail;go_region_held3 (fun w'=>w'.cell? ⟨w.heap.size,0,none⟩=some v0/\w'.cell? ⟨w.heap.size,1,none⟩=some v1/\w'.cell? ⟨w.heap.size,2,none⟩=some (.int .i64 W.time)/\w'.cell? ⟨w.heap.size,3,none⟩=some (.int .i64 W.next)/\w'.cell? ⟨w.heap.size,4,none⟩=some (.slice (some ⟨b,off,none⟩) W.sn c')/\w'.cell? ⟨w.heap.size,5,none⟩=some (.slice (some ⟨b2,aA,none⟩) W.pn c)/\w'.cell? ⟨b2,aA+kk*8+3,none⟩=some (.int .i64 (W.zPD kk).zPH)) (go_keep)
        (first | (go_at_call 49;refine(zw v0 v1 _ _ lo hi W y _ ?_).mono ?_;(exact(Hp.out.zO9 iA).zO9 (Below.refl _ _).drew);rintro e w7 ⟨r,rfl,hF,nA⟩;obtain rfl:=zGV lA.out hF;obtain⟨⟨y0,_⟩,⟨y1,_⟩,⟨y2,_⟩,⟨y3,_⟩,⟨y4,_⟩,⟨y5,_⟩⟩:=dA.out.zO9 (zI nA);have z4:=(nA.cell (p:=⟨b2,aA+kk*8+3,none⟩) (zD z3)).trans z3))
       have fB:=zB (dA.out.zO9 (zI nA));have iB:=qZ iA nA;clear nA dA iA hF y0 y1 y2 y3 y4 y5 e0 e2 e4 e6 e8 vA;go_wp2;go_roundw
       case rel=>exact⟨n+1,_,by go_num,rfl,eB.out,fB.out,iB⟩
       case measure=>simp[intOf];have:=gB.out;have:=eB.out.least;omega
      have gA:=zB (zLD lA.out he);have f1:=zEY he;clear he;go_wp2_with fail;go_region_held3 (fun w'=>w'.cell? ⟨w.heap.size,0,none⟩=some v0/\w'.cell? ⟨w.heap.size,1,none⟩=some v1/\w'.cell? ⟨w.heap.size,2,none⟩=some (.int .i64 W.time)/\w'.cell? ⟨w.heap.size,3,none⟩=some (.int .i64 W.next)/\w'.cell? ⟨w.heap.size,4,none⟩=some (.slice (some ⟨b,off,none⟩) W.sn c')/\w'.cell? ⟨w.heap.size,5,none⟩=some (.slice (some ⟨b2,aA,none⟩) W.pn c)/\w'.cell? ⟨b2,aA+kk*8+2,none⟩=some (.string (W.zPD kk).set)/\w'.cell? ⟨b,off+k*6,none⟩=some (.string (W.zPG k).name)) (go_keep)
       (first | (go_at_call 49;refine(zw v0 v1 _ _ lo hi W y _ ?_).mono ?_;(exact(Hp.out.zO9 hb).zO9 (Below.refl _ _).drew);rintro e w6 ⟨r,rfl,hF,bA⟩;obtain rfl:=zGV lA.out hF;obtain⟨⟨y0,_⟩,⟨y1,_⟩,⟨y2,_⟩,⟨y3,_⟩,⟨y4,_⟩,⟨y5,_⟩⟩:=HX.out.zO9 (zI bA);have z2:=(bA.cell (p:=⟨b2,aA+kk*8+2,none⟩) (zD q2)).trans q2;have z0:=(bA.cell (p:=⟨b,off+k*6,none⟩) (zD n0)).trans n0))
      have dA:=zB (HX.out.zO9 (zI bA));have iA:=qZ hb bA;have z3:=(bA.cell (p:=⟨b2,aA+kk*8+3,none⟩) (zD q3)).trans q3;have z1:=(bA.cell (p:=⟨b,off+k*6+1,none⟩) (zD n1)).trans n1;clear bA HX hb hF y0 y1 y2 y3 y4 y5 x0 x2 x4 x6 x8 jA q2 q3 n0 n1 rA sA tA;clear f1;obtain⟨⟨e0,-⟩,⟨e2,-⟩,⟨e4,-⟩,⟨e6,-⟩,⟨e8,-⟩,⟨vA,-⟩⟩:=dA.out;by_cases h1:n=yH W (W.zPG k).name W.pn
      ·by_cases h2:y=(W.zPG k).origin
       ·have Hl:=zB ((zB0 (origin:=(W.zPG k).origin) Hw.out.steps gA.out).2 ⟨h1,h2⟩);have g1:((n:Int) == (yH W (W.zPG k).name W.pn:Int))=true:=(by simp[h1]);have g2:((n:Int) != (yH W (W.zPG k).name W.pn:Int))=false:=(by simp[h1]);have g3:decide ((n:Int)=(yH W (W.zPG k).name W.pn:Int))=true:=(by simp[h1]);have g4:(y == (W.zPG k).origin)=true:=(by simp[h2]);have g5:(y != (W.zPG k).origin)=false:=(by simp[h2]);have g6:decide (y=(W.zPG k).origin)=true:=(by simp[h2]);clear h1 h2;go_wp2;go_roundw
        case rel=>exact⟨k+1,by omega,by go_num,zr cA fA.out Hl.out,dA.out,iA⟩
        case measure=>simp[intOf];omega
       ·have Hl:=zB (show ¬zAe W (W.zPG k).name (W.zPG k).zPH (W.zPG k).origin from fun h=>h2 ((zB0 Hw.out.steps gA.out).1 h).2);have g1:((n:Int) == (yH W (W.zPG k).name W.pn:Int))=true:=(by simp[h1]);have g2:((n:Int) != (yH W (W.zPG k).name W.pn:Int))=false:=(by simp[h1]);have g3:decide ((n:Int)=(yH W (W.zPG k).name W.pn:Int))=true:=(by simp[h1]);have g4:(y == (W.zPG k).origin)=false:=(by simp[h2]);have g5:(y != (W.zPG k).origin)=true:=(by simp[h2]);have g6:decide (y=(W.zPG k).origin)=false:=(by simp[h2]);clear h1 h2;go_wp2;go_ret;exact⟨zG.no fun hA=>Hl.out (hA k cA),iA⟩
      ·have Hl:=zB (show ¬zAe W (W.zPG k).name (W.zPG k).zPH (W.zPG k).origin from fun h=>h1 ((zB0 Hw.out.steps gA.out).1 h).1);have h3:¬(n:Int)=(yH W (W.zPG k).name W.pn:Int):=(by omega);have g1:((n:Int) == (yH W (W.zPG k).name W.pn:Int))=false:=(by simp[h3]);have g2:((n:Int) != (yH W (W.zPG k).name W.pn:Int))=true:=(by simp[h3]);have g3:decide ((n:Int)=(yH W (W.zPG k).name W.pn:Int))=false:=(by simp[h3]);clear h1 h3;go_wp2;go_ret;exact⟨zG.no fun hA=>Hl.out (hA k cA),iA⟩
def zBm(W:zE)(i:Nat):Prop:=zCm (zJ W i).dn (zJ W i).ds (zJ W i).db (yu (zB8 W (zJ W i)) (yP W (zJ W i)))
structure zGN (W:zE):Prop where
 right:qB W.zPE
 zPL:zAi W
 lines:∀i,i<W.sn->zAe W (W.zPG i).name (W.zPG i).zPH (W.zPG i).origin
 zPD:∀i,i<W.pn->zz W.zPE (W.zPD i).rs (W.zPD i).rb
 zPG:∀i,i<W.sn->zz W.zPE (W.zPG i).rs (W.zPG i).rb/\zBm W (W.pn+i)
 zPK:∀i,i<W.pn->zBm W i
 reach:zDl W
 born:∀i,i<zm W->zBl W i
 zPJ:zFJ W
theorem zLG{W:zE}(h:∀k,k<W.pn->zz W.zPE (W.zPD k).rs (W.zPD k).rb)(x:Int):zz W.zPE (zK W x).rs (zK W x).rb:=by
 by_cases hx:∃k,qM W x k
 ·obtain⟨k,hk⟩:=hx;rw[qx hk];exact h k hk.1
 ·have:zK W x=yG:=by
   unfold zK;rw[dif_neg hx]
  rw[this];exact Or.inl ⟨rfl,rfl⟩
theorem zHJ{W:zE}(hR:qB W.zPE)(hN:zAi W)(h1:∀i,i<W.pn->zz W.zPE (W.zPD i).rs (W.zPD i).rb)(h2:∀i,i<W.sn->zz W.zPE (W.zPG i).rs (W.zPG i).rb):zAj W where
 right:=hR
 ids:=hN.prevOk.less
 tree:=fun i hi=>by
  by_cases hp:i<W.pn
  ·rw[qA hp];exact h1 i hp
  ·have e:=qz W (i - W.pn);rw[show W.pn+(i - W.pn)=i by omega]at e;rw[e];unfold zm at hi;exact h2 _ (by omega)
 time:=fun i hi=>by
  by_cases hp:i<W.pn
  ·rw[qA hp];have:1<=(W.zPD i).time:=(hN.2.2.2.2.2 i hp).1.2.2.1;show 0<=(W.zPD i).time;omega
  ·have e:=qz W (i - W.pn);rw[show W.pn+(i - W.pn)=i by omega]at e;rw[e];have:1<=W.time:=hN.1.1;show 0<=W.time;omega
theorem zMD{v0 v1 v2 v3 vd:Value}{lo hi:Nat}{W:zE}{w:World}(h:zd w lo hi v0 v1 v2 v3 W)(hR:qB W.zPE)(hO:∀k,k<W.pn->zz W.zPE (W.zPD k).rs (W.zPD k).rb)(hP:zBn W){k:Nat}(hk:k<W.pn)(hD:zR w lo hi vd (W.zPD k).dn (W.zPD k).ds (W.zPD k).db)(w':World)(hb:Below w.heap.size w w') :
  Calls Tryz.prog 72 #[zt v0 v1 v2 v3 W,.int .i64 (W.zPD k).zPH,.agg #[.int .i64 (W.zPD k).rs,.int .i64 (W.zPD k).rb],vd] w' fun e aA=>zG (zBm W k) e/\Below w'.heap.size w' aA:=by
 unfold zBm;rw[qA hk];exact zFr v0 v1 v2 v3 vd lo hi lo hi _ _ _ W _ _ _ _ _ w' (h.zO9 hb) (hD.zO9 hb) hR (hO k hk) (zLG hO _) hP rfl rfl
theorem zNA{v0 v1 v2 v3 vd:Value}{lo hi:Nat}{W:zE}{w:World}(h:zd w lo hi v0 v1 v2 v3 W)(hR:qB W.zPE)(hO:∀k,k<W.pn->zz W.zPE (W.zPD k).rs (W.zPD k).rb)(hP:zBn W){k:Nat}(hT:zz W.zPE (W.zPG k).rs (W.zPG k).rb)(hD:zR w lo hi vd (W.zPG k).dn (W.zPG k).ds (W.zPG k).db)(w':World)(hb:Below w.heap.size w w') :
  Calls Tryz.prog 72 #[zt v0 v1 v2 v3 W,.int .i64 (W.zPG k).zPH,.agg #[.int .i64 (W.zPG k).rs,.int .i64 (W.zPG k).rb],vd] w' fun e aA=>zG (zBm W (W.pn+k)) e/\Below w'.heap.size w' aA:=by
 unfold zBm;rw[qz];exact zFr v0 v1 v2 v3 vd lo hi lo hi _ _ _ W _ _ _ _ _ w' (h.zO9 hb) (hD.zO9 hb) hR hT (zLG hO _) hP rfl rfl
def zBV(v:Value):Option (DataW Value×List MemPlace):=some (.held v,[])
theorem zDb{v:Value}{d:DataW Value}{ps:List MemPlace}(h:zBV v=some (d,ps)):d = .held v:=by
 unfold zBV at h;simp only[Option.some.injEq,Prod.mk.injEq]at h;exact h.1.symm
theorem zA2(v:Value):zBV v=some (.held v,[]):=rfl
theorem zCH{P:Program}(w:World){eA:Array Oper}{aA:List Oper}{o:Oper}{a:Act}{Q:Exit->Act->World->Prop}
  (hg:o.guard=none) (m x:Operand) (t:TypeId) (iA:o.op=Op.lookup t m x false)
  (k e:TypeId) (K:Keyed P k) (ht:P.underlying t=some (.map k e)) {z:Value} (hz:(zeroValue e).run P w = .ok z w) (b n:Nat) (D:DataW Value)
  (hm:a.eval m = .map (some b)) (cA:w.ownsMap P k zBV b n D) (key:Value) (kl:Lit) (hx:a.eval x=key) (bA:keyOf P k key=some kl)
  (v:Value) (gA:D.atKey kl (.held z) = .held v) (hK:wpList P eA Q aA (a.put o.dst v) w) :
  wpList P eA Q (o :: aA) a w:=by
 refine wpList_plain hg fun K' fA=>?_
 obtain⟨v',ps,dA,hv⟩:=cA.lookup K ht hz (zA2 z) bA;have e1:=zDb hv;rw[gA]at e1;injection e1 with e1;subst e1;unfold Oper.wp;simp[execOp,iA,hm,hx,dA,Result.andThen];exact fA _ _ hK
theorem zAR{P:Program}(w:World){dA:Array Oper}{aA:List Oper}{o:Oper}{a:Act}{Q:Exit->Act->World->Prop}
  (hg:o.guard=none) (m x:Operand) (t:TypeId) (fA:o.op=Op.lookup t m x true)
  (k e:TypeId) (K:Keyed P k) (ht:P.underlying t=some (.map k e)) {z:Value} (hz:(zeroValue e).run P w = .ok z w) (b n:Nat) (D:DataW Value)
  (hm:a.eval m = .map (some b)) (cA:w.ownsMap P k zBV b n D) (key:Value) (kl:Lit) (hx:a.eval x=key) (bA:keyOf P k key=some kl)
  (v:Value) (eA:D.atKey kl (.held z) = .held v) (c:Bool) (hc:Maps.has D kl=c) (hK:wpList P dA Q aA (a.put o.dst (.tuple #[v,.bool c])) w) :
  wpList P dA Q (o :: aA) a w:=by
 refine wpList_lookup_own_ok w hg m x t fA k e K ht zBV hz (.held z) [] (zA2 z) b n D hm cA key kl hx bA (fun v' ps hv=>?_);have e1:=zDb hv;rw[eA]at e1;injection e1 with e1;subst e1;rw[hc];exact hK
def putD(key:Nat->Lit)(val:Nat->Value):Nat->DataW Value
 | 0=>.map []
 | k+1=>(putD key val k).put (key k) (.held (val k))
def zCl(key:Nat->Lit):Prop:=∀i,WideAt.IsKeyLit (key i)
theorem zBi{key:Nat->Lit}(hk:zCl key)(val:Nat->Value):∀k,Tidy (putD key val k)
 | 0=>tidy_empty
 | k+1=>(zBi hk val k).put (hk k) _
theorem zCj{key:Nat->Lit}(hk:zCl key)(val:Nat->Value)(l:Lit):∀k,Maps.has (putD key val k) l=true↔∃i,i<k/\key i=l
 | 0=>by
  constructor
  ·intro h;exact absurd h (by simp[putD,Maps.has])
  ·rintro⟨i,hi,_⟩;omega
 | k+1=>by
  by_cases hx:key k=l
  ·subst hx;exact⟨fun _=>⟨k,by omega,rfl⟩,fun _=>has_put_same (zBi hk val k).isMap (hk k) _⟩
  ·rw[show Maps.has (putD key val (k+1)) l=Maps.has (putD key val k) l from has_put_other (Ne.symm hx) _,zCj hk val l k];constructor
   ·rintro⟨i,hi,e⟩;exact⟨i,by omega,e⟩
   ·rintro⟨i,hi,e⟩;by_cases h:i=k
    ·subst h;exact absurd e hx
    ·exact⟨i,by omega,e⟩
theorem zFa{key:Nat->Lit}(hk:zCl key)(val:Nat->Value){l:Lit}{k:Nat}(h:∀i,i<k->key i≠l)(z:DataW Value):(putD key val k).atKey l z=z:=by
 refine atKey_of_not_has ?_ _;rw[Bool.eq_false_iff];intro hh;obtain⟨i,hi,e⟩:=(zCj hk val l k).1 hh;exact h i hi e
theorem zGF{key:Nat->Lit}(hk:zCl key)(val:Nat->Value)(z:DataW Value):∀k i,i<k->(∀j,i<j->j<k->key j≠key i)->(putD key val k).atKey (key i) z = .held (val i)
 | 0,i,hi,_=>absurd hi (Nat.not_lt_zero _)
 | k+1,i,hi,hd=>by
  by_cases e:i=k
  ·subst e;exact atKey_put_same (zBi hk val i).isMap (hk i) _ _
  ·exact(atKey_put_other (Ne.symm (hd k (by omega) (by omega))) _ _).trans (zGF hk val z k i (by omega) (fun j h1 h2=>hd j h1 (by omega)))
def zEc(n:Nat)(key:Nat->Lit):Prop:=∀i,i<n->∀k,k<i->key k≠key i
theorem zEM{k:Nat}{f:Nat->Lit}:zEc (k+1) f↔zEc k f/\∀i,i<k->f i≠f k:=by
 constructor
 ·exact fun h=>⟨fun i hi=>h i (by omega),fun i hi=>h k (by omega) i hi⟩
 ·rintro⟨h1,h2⟩ i hi j hj;by_cases e:i=k
  ·subst e;exact h2 j hj
  ·exact h1 i (by omega) j hj
theorem zFb{key:Nat->Lit}(hk:zCl key)(val:Nat->Value):∀k,Maps.size (putD key val k)<=k/\(Maps.size (putD key val k)=k↔zEc k key)
 | 0=>⟨Nat.le_refl _,fun _ i hi=>by omega,fun _=>rfl⟩
 | k+1=>by
  obtain⟨h1,h2⟩:=zFb hk val k;have e:Maps.size (putD key val (k+1))=if Maps.has (putD key val k) (key k)then Maps.size (putD key val k)else Maps.size (putD key val k)+1:=size_put (zBi hk val k) _
  by_cases hh:Maps.has (putD key val k) (key k)=true
  ·rw[if_pos hh]at e;rw[e,zEM];refine⟨by omega,fun h=>by omega,fun h=>?_⟩;obtain⟨i,hi,he⟩:=(zCj hk val (key k) k).1 hh;exact absurd he (h.2 i hi)
  ·rw[if_neg hh]at e;rw[e,zEM,<-h2];refine⟨by omega,fun h=>⟨by omega,fun i hi he=>hh ((zCj hk val (key k) k).2 ⟨i,hi,he⟩)⟩,fun h=>by omega⟩
theorem zDQ(n:Int)(w:World):Calls Tryz.prog 202 #[.int .i64 n] w fun e w'=>zG (zBM n 1 900000) e/\w'=w:=by
 by_cases h1:1<=n
 ·by_cases h2:n<=900000
  ·go_enter Tryz.func202,Tryz.ntmps202;go_wp2;go_ret;exact⟨zG.yes ⟨h1,h2⟩,rfl⟩
  ·go_enter Tryz.func202,Tryz.ntmps202;go_wp2;go_ret;exact⟨zG.no fun h=>by have:=h.2;omega,rfl⟩
 ·go_enter Tryz.func202,Tryz.ntmps202;go_wp2;go_ret;exact⟨zG.no fun h=>by have:=h.1;omega,rfl⟩
def Mid(a x b:Int):Prop:=a<x/\x<b
theorem zFl(a x b:Int)(w:World):Calls Tryz.prog 222 #[.int .i64 a,.int .i64 x,.int .i64 b] w fun e w'=>zG (Mid a x b) e/\w'=w:=by
 by_cases h1:a<x
 ·by_cases h2:x<b
  ·go_enter Tryz.func222,Tryz.ntmps222;go_wp2;go_ret;exact⟨zG.yes ⟨h1,h2⟩,rfl⟩
  ·go_enter Tryz.func222,Tryz.ntmps222;go_wp2;go_ret;exact⟨zG.no fun h=>by have:=h.2;omega,rfl⟩
 ·go_enter Tryz.func222,Tryz.ntmps222;go_wp2;go_ret;exact⟨zG.no fun h=>by have:=h.1;omega,rfl⟩
def zDW(f:Nat->zv):Nat->ByteArray
 | 0=>⟨#[]⟩
 | k+1=>(f k).name
def zON(n:Nat)(f:Nat->zv):Prop:=n<=8/\∀i,i<n->yE (f i).name/\zCW (zDW f i) (f i).name
theorem zHp(v:Value)(n lo hi:Nat)(f:Nat->zv)(w:World)(h:yY w lo hi v n f) :
  Calls Tryz.prog 203 #[v] w fun e w'=>zG (zON n f) e/\Below w.heap.size w w':=by
 have Hp:=zB h;obtain⟨m1,a,c,rfl,mc,-⟩:=id h;unfold maxLen at m1;clear h;by_cases hn:n<=8;rotate_left
 ·have kA:(8:Int)<(n:Int):=(by omega);go_enter Tryz.func203,Tryz.ntmps203;go_wp2;go_ret;exact⟨zG.no fun h=>hn h.1,Below.refl _ _⟩
 have kA:¬(8:Int)<(n:Int):=by omega
 go_enter Tryz.func203,Tryz.ntmps203;go_wp2
 go_loopw [3,11] (fun l i wr=>∃k:Nat,k<=n/\i = .int .i64 k/\l = .string (zDW f k)/\(∀j,j<k->yE (f j).name/\zCW (zDW f j) (f j).name)/\Below w.heap.size w wr) (fun _ i _=>n - (intOf i).toNat)
 case atStart=>exact⟨0,Nat.zero_le _,rfl,rfl,fun j hj=>absurd hj (Nat.not_lt_zero _),Below.refl _ _⟩
 case round=>
  obtain⟨k,hk,rfl,rfl,cA,hb⟩:=hrel;have bA:=zB cA;clear cA;by_cases dA:k<n;rotate_left
  ·obtain rfl:k=n:=(by omega);go_wp2;go_ret;exact⟨zG.yes ⟨hn,bA.out⟩,hb⟩
  have jA:(k:Int)<(n:Int):=(by omega);obtain⟨b,off,vd,rfl,aA⟩:=(Hp.out.zO9 hb).cells dA;obtain⟨-,ad,cd,rfl,-,-⟩:=id aA.zPK;have gA:=zC wr (.cells #[.string (f k).name,.int .i64 (f k).origin,.int .i64 (f k).zPH,.int .i64 (f k).rs,.int .i64 (f k).rb,.slice ad (f k).dn cd] 67);have iA:=zB (zg.new wr (.string (f k).name) (.int .i64 (f k).origin) (.int .i64 (f k).zPH) (.int .i64 (f k).rs) (.int .i64 (f k).rb) (.slice ad (f k).dn cd) 67);have fA:=zA hb gA;have q0:=aA.c0;have q1:=aA.c1;have q2:=aA.c2;have q3:=aA.c3;have q4:=aA.c4;have q5:=aA.c5;have lA:=aA.zPN;obtain⟨⟨y0,y1⟩,-⟩:=iA.out;clear aA gA;go_wp2_with fail;clear q0 q1 q2 q3 q4 q5;refine(zCv (f k).name _ lA).mono ?_;rintro e wn ⟨⟨tn,rfl,eA⟩,rfl⟩;by_cases hA:yE (f k).name;rotate_left
  ·have Hn:=zB hA;obtain rfl:tn=false:=zW eA hA;clear eA hA;go_wp2;go_ret;exact⟨zG.no fun h=>Hn.out (h.2 k dA).1,fA⟩
  have HA:=zB hA;obtain rfl:tn=true:=eA.2 hA;clear eA hA;by_cases hR:zCW (zDW f k) (f k).name
  ·have f1:=(zLu (f k).name (zDW f k)).2 hR;have HR:=zB hR;clear hR;go_wp2;go_roundw
   case rel=>exact⟨k+1,by omega,by go_num,rfl,zr dA bA.out ⟨HA.out,HR.out⟩,fA⟩
   case measure=>simp[intOf];omega
  ·have f1:(Op.bytesLess (f k).name.toList (zDW f k).toList || (f k).name.toList == (zDW f k).toList)=true:=by
    cases hc:(Op.bytesLess (f k).name.toList (zDW f k).toList || (f k).name.toList == (zDW f k).toList)
    ·exact absurd ((zLu _ _).1 hc) hR
    ·rfl
   have HR:=zB hR;clear hR;go_wp2;go_ret;exact⟨zG.no fun h=>HR.out (h.2 k dA).2,fA⟩
theorem zNO:laidOutB Tryz.prog=true:=by kernel_rfl
theorem zOS:300<=Tryz.prog.types.size+300 - 1/\1<=Tryz.prog.types.size:=by
 have h:decide (1<=Tryz.prog.types.size)=true:=by kernel_rfl
 have:=of_decide_eq_true h;omega
theorem zNQ{k:Nat}(h:decide (k<Tryz.prog.types.size)=true):k<Tryz.prog.types.size:=of_decide_eq_true h
theorem zO8:Tryz.prog.underlying 9=some .string:=by kernel_rfl
theorem zOu:Tryz.prog.underlying 2=some (.int .i64):=by kernel_rfl
theorem zOd:Keyed Tryz.prog 9:=string_keyed zO8
theorem zNP:Keyed Tryz.prog 2:=int_keyed zOu
def zDB(s:ByteArray):Lit:=.string s.data.toList
theorem zLp{s:ByteArray}(h:s.size<=maxLen):keyOf Tryz.prog 9 (.string s)=some (zDB s):=by simp[keyOf,mapKey,zDB,h]
theorem zNN{s t:ByteArray}(h:zDB s=zDB t):s=t:=by
 unfold zDB at h;injection h with h;cases s;cases t;simp only[ByteArray.mk.injEq];exact Array.toList_inj.1 h
theorem zJy(s:ByteArray):WideAt.IsKeyLit (zDB s):=trivial
def zEQ(x:Int):Lit:=.int .i64 x
theorem zEz{x:Int}(h:(Lit.int .i64 x).wf=true):keyOf Tryz.prog 2 (.int .i64 x)=some (zEQ x):=keyOf_int_mk zOu h
theorem zEy{x y:Int}(h:zEQ x=zEQ y):x=y:=by unfold zEQ at h;injection h
theorem zGg(x:Int):WideAt.IsKeyLit (zEQ x):=trivial
theorem zO2:Tryz.prog.underlying 266=some (.array 2 9):=by kernel_rfl
theorem zOe:Keyed Tryz.prog 266:=Keyed.of_law (deep_law_laid zNO (m:=5) (by decide) (zNQ (by kernel_rfl)) (by kernel_rfl) (by kernel_rfl))
theorem zN5{s t:ByteArray}(hs:s.size<=maxLen)(ht:t.size<=maxLen):∃l,keyOf Tryz.prog 266 (.agg #[.string s,.string t])=some l:=by
 obtain⟨m,hm⟩:∃m,Tryz.prog.types.size+1=m+2:=⟨Tryz.prog.types.size - 1,by have:=zOS;omega⟩;have hk:Tryz.prog.keyType 266=true:=by kernel_rfl
 have hc:Tryz.prog.cellsOf 266=2:=by kernel_rfl
 have h1:Tryz.prog.cellsOf 9=1:=by kernel_rfl
 unfold keyOf;simp only[zO2];rw[if_pos (by simp[hk,Value.formed,hc]),hm];unfold Program.keyLits;simp only[zO2,Value.cells];rw[if_pos (by rw[hc];rfl),show List.range 2 = [0,1] from rfl,List.mapM_cons,List.mapM_cons,List.mapM_nil];simp[h1,Program.keyLits,hs,ht]
theorem zO0:Tryz.prog.underlying 61=some (.struct #[⟨"Slot",2,0,false, "", "",0⟩,⟨"Birth",2,1,false, "", "",8⟩]):=by kernel_rfl
theorem zOc:Keyed Tryz.prog 61:=Keyed.of_law (deep_law_laid zNO (m:=5) (by decide) (zNQ (by kernel_rfl)) (by kernel_rfl) (by kernel_rfl))
theorem zN4{x y:Int}(hx:(Lit.int .i64 x).wf=true)(hy:(Lit.int .i64 y).wf=true):∃l,keyOf Tryz.prog 61 (.agg #[.int .i64 x,.int .i64 y])=some l:=by
 obtain⟨m,hm⟩:∃m,Tryz.prog.types.size+1=m+2:=⟨Tryz.prog.types.size - 1,by have:=zOS;omega⟩;have hk:Tryz.prog.keyType 61=true:=by kernel_rfl
 have hc:Tryz.prog.cellsOf 61=2:=by kernel_rfl
 have h1:Tryz.prog.cellsOf 2=1:=by kernel_rfl
 unfold keyOf;simp only[zO0];rw[if_pos (by simp[hk,Value.formed,hc]),hm];unfold Program.keyLits;simp only[zO0,Value.cells];rw[if_pos ⟨by rw[hc];rfl,by kernel_rfl⟩];simp[h1,Program.keyLits,hx,hy]
def zDC(vd:Value)(s:zv):Value:=.agg #[.string s.name,.int .i64 s.origin,.int .i64 s.zPH,.int .i64 s.rs,.int .i64 s.rb,vd]
def qX(vd:Value)(s:zY):Value:=.agg #[.int .i64 s.id,.string s.name,.string s.set,.int .i64 s.zPH,.int .i64 s.time,.int .i64 s.rs,.int .i64 s.rb,vd]
def zJV(w:World)(lo hi n:Nat)(f:Nat->zv)(vd:Nat->Value):Prop:=∀i,i<n->zR w lo hi (vd i) (f i).dn (f i).ds (f i).db
def zDm(w:World)(lo hi n:Nat)(f:Nat->zY)(vd:Nat->Value):Prop:=∀i,i<n->zR w lo hi (vd i) (f i).dn (f i).ds (f i).db
open Classical in
theorem yY.vals{w:World}{lo hi:Nat}{a:Option Addr}{n c:Nat}{f:Nat->zv}(h:yY w lo hi (.slice a n c) n f):∃vd:Nat->Value,zJV w lo hi n f vd/\∀i,i<n->∃b off,a=some ⟨b,off,none⟩/\zAt w b (off+i*6) lo hi (vd i) (f i):=by
 have hx:∀i,∃v,i<n->∃b off,a=some ⟨b,off,none⟩/\zAt w b (off+i*6) lo hi v (f i):=fun i=>by
  by_cases aA:i<n
  ·obtain⟨b,off,vd,ha,hs⟩:=h.cells aA;exact⟨vd,fun _=>⟨b,off,ha,hs⟩⟩
  ·exact⟨undef,fun h=>absurd h aA⟩
 refine⟨fun i=>(hx i).choose,fun i aA=>?_,fun i aA=>(hx i).choose_spec aA⟩;obtain⟨b,off,_,hs⟩:=(hx i).choose_spec aA;exact hs.zPK
open Classical in
theorem qf.vals{w:World}{lo hi:Nat}{a:Option Addr}{n c:Nat}{f:Nat->zY}(h:qf w lo hi (.slice a n c) n f):∃vd:Nat->Value,zDm w lo hi n f vd/\∀i,i<n->∃b off,a=some ⟨b,off,none⟩/\ye w b (off+i*8) lo hi (vd i) (f i):=by
 have hx:∀i,∃v,i<n->∃b off,a=some ⟨b,off,none⟩/\ye w b (off+i*8) lo hi v (f i):=fun i=>by
  by_cases aA:i<n
  ·obtain⟨b,off,vd,ha,hs⟩:=h.cells aA;exact⟨vd,fun _=>⟨b,off,ha,hs⟩⟩
  ·exact⟨undef,fun h=>absurd h aA⟩
 refine⟨fun i=>(hx i).choose,fun i aA=>?_,fun i aA=>(hx i).choose_spec aA⟩;obtain⟨b,off,_,hs⟩:=(hx i).choose_spec aA;exact hs.zPK
theorem zNp:Tryz.prog.underlying 177=some (.map 9 67):=by kernel_rfl
theorem zHC:Tryz.prog.underlying 218=some (.map 2 99):=by kernel_rfl
theorem zM3:Tryz.prog.underlying 265=some (.map 266 2):=by kernel_rfl
def zBO(w:World)(W:zE)(M n:Nat)(vd:Nat->Value):Prop:=w.ownsMap Tryz.prog 9 zBV M n (putD (fun i=>zDB (W.zPG i).name) (fun i=>zDC (vd i) (W.zPG i)) n)
def zAL(w:World)(W:zE)(M n:Nat)(vd:Nat->Value):Prop:=w.ownsMap Tryz.prog 2 zBV M n (putD (fun i=>zEQ (W.zPD i).id) (fun i=>qX (vd i) (W.zPD i)) n)
theorem zBO.zO9{w w':World}{W:zE}{M n:Nat}{vd:Nat->Value}(h:zBO w W M n vd)(t:Below w.heap.size w w'):zBO w' W M n vd:=h.kept (yW t none) (by simp)
theorem zAL.zO9{w w':World}{W:zE}{M n:Nat}{vd:Nat->Value}(h:zAL w W M n vd)(t:Below w.heap.size w w'):zAL w' W M n vd:=h.kept (yW t none) (by simp)
theorem zG5(v0 v1 v2 v3:Value)(lo hi:Nat)(W:zE)(w:World)(h:zd w lo hi v0 v1 v2 v3 W)(hn:W.sn<=8) :
  Calls Tryz.prog 129 #[zt v0 v1 v2 v3 W] w fun e w'=>∃vd,e = .returned (.map (some (w.heap.size+1)))/\zBO w' W (w.heap.size+1) W.sn vd/\zJV w lo hi W.sn W.zPG vd/\Below w.heap.size w w':=by
 have Hp:=zB h;obtain⟨m1,a,c,rfl,mc,-⟩:=id h.zPG;unfold maxLen at m1;obtain⟨vd,rA,oA⟩:=h.zPG.vals;have vA:=zB rA;have tA:=zB oA;clear h rA oA;have ha:=zC w (.cells #[v0,v1,.int .i64 W.time,.int .i64 W.next,.slice a W.sn c,v3] 37);have HB:=zB (zg.new w v0 v1 (.int .i64 W.time) (.int .i64 W.next) (.slice a W.sn c) v3 37);have kA:(w.alloc (.cells #[v0,v1,.int .i64 W.time,.int .i64 W.next,.slice a W.sn c,v3] 37)).heap.size=w.heap.size+1:=World.size_alloc _ _;have hm:=World.ownsMap_made (w.alloc (.cells #[v0,v1,.int .i64 W.time,.int .i64 W.next,.slice a W.sn c,v3] 37)) Tryz.prog 9 zBV;rw[kA]at hm;have HM:=zB hm;have lA:=zB (HB.out.zO9 (zC _ (.map #[] 0)));have mA:=zB (zA ha (zC _ (.map #[] 0)));have eB:=@run_makeMap Tryz.prog;obtain⟨⟨x0,-⟩,⟨x2,-⟩,⟨x4,-⟩,⟨x6,-⟩,⟨x8,-⟩,⟨dB,-⟩⟩:=lA.out;clear hm;go_enter Tryz.func129,Tryz.ntmps129;go_wp2;clear x0 x2 x4 x6 x8 dB ha
 go_loopw [10] (fun i wr=>∃k:Nat,k<=W.sn/\i = .int .i64 k/\zBO wr W (w.heap.size+1) k vd/\Below w.heap.size w wr/\w.heap.size+2<=wr.heap.size) (fun i _=>W.sn - (intOf i).toNat)
 case atStart=>exact⟨0,Nat.zero_le _,rfl,HM.out,mA.out,by rw[World.size_alloc,kA];omega⟩
 case round=>
  clear HM lA mA HB kA;obtain⟨k,hk,rfl,eA,hb,hz⟩:=hrel;have cA:=zB eA;clear eA;by_cases bB:k<W.sn
  ·have cB:(k:Int)<(W.sn:Int):=(by omega);obtain⟨b,off,rfl,pA⟩:=tA.out k bB;have bA:=pA.zO9 hb;obtain⟨-,ad,cd,jA,-,-⟩:=id bA.zPK;have aB:=zB jA;rw[jA]at bA;clear jA pA;have gA:=zC wr (.cells #[.string (W.zPG k).name,.int .i64 (W.zPG k).origin,.int .i64 (W.zPG k).zPH,.int .i64 (W.zPG k).rs,.int .i64 (W.zPG k).rb,.slice ad (W.zPG k).dn cd] 67);have sA:=zB (zg.new wr (.string (W.zPG k).name) (.int .i64 (W.zPG k).origin) (.int .i64 (W.zPG k).zPH) (.int .i64 (W.zPG k).rs) (.int .i64 (W.zPG k).rb) (.slice ad (W.zPG k).dn cd) 67);have nA:=zA hb gA;have q0:=bA.c0;have q1:=bA.c1;have q2:=bA.c2;have q3:=bA.c3;have q4:=bA.c4;have q5:=bA.c5;have iA:=zB (zLp bA.zPN);obtain⟨⟨y0,y1⟩,⟨y2,y3⟩,⟨y4,y5⟩,⟨y6,y7⟩,⟨y8,y9⟩,⟨gB,iB⟩⟩:=sA.out;have dA:=zB (cA.out.zO9 gA);have fB:=gA.size;clear bA gA;go_wp2_with (first
    | (at_mapUpdate;refine wpList_mapUpdate_own _ rfl _ _ _ 177 rfl 9 67 zOd zNp zBV (w.heap.size+1) k _ rfl dA.out (by unfold maxLen;omega) _ _ _ rfl rfl iA.out _ [] (zA2 _) ?_;intro w1 fA aA)
    | go_in)
   go_roundw
   case rel=>
    refine⟨k+1,by omega,by go_num,?_,nA.grown aA nA.size (fun j hj=>by cases hj;omega),by have:=aA.size;omega⟩;unfold zBO putD zDC;rw[aB.out];exact fA
   case measure=>simp[intOf];omega
  ·obtain rfl:k=W.sn:=(by omega);go_wp2;go_ret;exact⟨vd,rfl,cA.out,vA.out,hb⟩
def zD3(n:Nat)(f:Nat->zY):Prop:=∀i,i<n->(Lit.int .i64 (f i).id).wf=true
theorem zED(v0 v1 v2 v3:Value)(lo hi:Nat)(W:zE)(w:World)(h:zd w lo hi v0 v1 v2 v3 W)(hn:W.pn<=20)(tA:zD3 W.pn W.zPD) :
  Calls Tryz.prog 179 #[zt v0 v1 v2 v3 W] w fun e w'=>∃vd,e = .returned (.map (some (w.heap.size+1)))/\zAL w' W (w.heap.size+1) W.pn vd/\zDm w lo hi W.pn W.zPD vd/\Below w.heap.size w w':=by
 have Hp:=zB h;have dB:=zB tA;obtain⟨m1,a,c,rfl,mc,-⟩:=id h.zPD;unfold maxLen at m1;obtain⟨vd,sA,oA⟩:=h.zPD.vals;have bB:=zB sA;have aB:=zB oA;clear h sA oA tA;have ha:=zC w (.cells #[v0,v1,.int .i64 W.time,.int .i64 W.next,v2,.slice a W.pn c] 37);have HB:=zB (zg.new w v0 v1 (.int .i64 W.time) (.int .i64 W.next) v2 (.slice a W.pn c) 37);have kA:(w.alloc (.cells #[v0,v1,.int .i64 W.time,.int .i64 W.next,v2,.slice a W.pn c] 37)).heap.size=w.heap.size+1:=World.size_alloc _ _;have hm:=World.ownsMap_made (w.alloc (.cells #[v0,v1,.int .i64 W.time,.int .i64 W.next,v2,.slice a W.pn c] 37)) Tryz.prog 2 zBV;rw[kA]at hm;have HM:=zB hm;have lA:=zB (HB.out.zO9 (zC _ (.map #[] 0)));have mA:=zB (zA ha (zC _ (.map #[] 0)));have gB:=@run_makeMap Tryz.prog;obtain⟨⟨x0,-⟩,⟨x2,-⟩,⟨x4,-⟩,⟨x6,-⟩,⟨x8,-⟩,⟨fB,-⟩⟩:=lA.out;clear hm;go_enter Tryz.func179,Tryz.ntmps179;go_wp2;clear x0 x2 x4 x6 x8 fB ha
 go_loopw [10] (fun i wr=>∃k:Nat,k<=W.pn/\i = .int .i64 k/\zAL wr W (w.heap.size+1) k vd/\Below w.heap.size w wr/\w.heap.size+2<=wr.heap.size) (fun i _=>W.pn - (intOf i).toNat)
 case atStart=>exact⟨0,Nat.zero_le _,rfl,HM.out,mA.out,by rw[World.size_alloc,kA];omega⟩
 case round=>
  clear HM lA mA HB kA;obtain⟨k,hk,rfl,eA,hb,hz⟩:=hrel;have cA:=zB eA;clear eA;by_cases pA:k<W.pn
  ·have eB:(k:Int)<(W.pn:Int):=(by omega);obtain⟨b,off,rfl,rA⟩:=aB.out k pA;have bA:=rA.zO9 hb;obtain⟨-,ad,cd,jA,-,-⟩:=id bA.zPK;have cB:=zB jA;rw[jA]at bA;clear jA rA;have gA:=zC wr (.cells #[.int .i64 (W.zPD k).id,.string (W.zPD k).name,.string (W.zPD k).set,.int .i64 (W.zPD k).zPH,.int .i64 (W.zPD k).time,.int .i64 (W.zPD k).rs,.int .i64 (W.zPD k).rb,.slice ad (W.zPD k).dn cd] 99);have vA:=zB (yx.new wr (.int .i64 (W.zPD k).id) (.string (W.zPD k).name) (.string (W.zPD k).set) (.int .i64 (W.zPD k).zPH) (.int .i64 (W.zPD k).time) (.int .i64 (W.zPD k).rs) (.int .i64 (W.zPD k).rb) (.slice ad (W.zPD k).dn cd) 99);have nA:=zA hb gA;have q0:=bA.c0;have q1:=bA.c1;have q2:=bA.c2;have q3:=bA.c3;have q4:=bA.c4;have q5:=bA.c5;have q6:=bA.c6;have q7:=bA.c7;have iA:=zB (zEz (dB.out k pA));obtain⟨⟨⟨y0,-⟩,⟨y1,-⟩,⟨y2,-⟩,⟨y3,-⟩⟩,⟨y4,-⟩,⟨y5,-⟩,⟨y6,-⟩,⟨y7,-⟩⟩:=vA.out;have dA:=zB (cA.out.zO9 gA);have iB:=gA.size;clear bA gA;go_wp2_with (first
    | (at_mapUpdate;refine wpList_mapUpdate_own _ rfl _ _ _ 218 rfl 2 99 zNP zHC zBV (w.heap.size+1) k _ rfl dA.out (by unfold maxLen;omega) _ _ _ rfl rfl iA.out _ [] (zA2 _) ?_;intro w1 fA aA)
    | go_in)
   go_roundw
   case rel=>
    refine⟨k+1,by omega,by go_num,?_,nA.grown aA nA.size (fun j hj=>by cases hj;omega),by have:=aA.size;omega⟩;unfold zAL putD qX;rw[cB.out];exact fA
   case measure=>simp[intOf];omega
  ·obtain rfl:k=W.pn:=(by omega);go_wp2;go_ret;exact⟨vd,rfl,cA.out,bB.out,hb⟩
def zBo(n:Nat)(f:Nat->zY):Prop:=∀i,i<n->∀k,k<i->¬((f k).set=(f i).set/\(f k).name=(f i).name)
theorem zBo.iff{n:Nat}{f:Nat->zY}{key:Nat->Lit}(hk:∀i,i<n->keyOf Tryz.prog 266 (.agg #[.string (f i).set,.string (f i).name])=some (key i)):zEc n key↔zBo n f:=by
 constructor
 ·intro h i hi k aA e;refine h i hi k aA ?_;have h1:=hk i hi;have h2:=hk k (by omega);rw[e.1,e.2,h1]at h2;exact(Option.some.inj h2).symm
 ·intro h i hi k aA e;have h1:=hk i hi;have h2:=hk k (by omega);rw[e]at h2;have:=zOe.inj h2 h1;simp only[Value.agg.injEq,Array.mk.injEq,List.cons.injEq,Value.string.injEq,and_true]at this;exact h i hi k aA this
theorem zGm(v:Value)(n lo hi:Nat)(f:Nat->zY)(w:World)(h:qf w lo hi v n f)(hn:n<=20) :
  Calls Tryz.prog 223 #[v] w fun e w'=>zG (zBo n f) e/\Below w.heap.size w w':=by
 have Hp:=zB h;obtain⟨m1,a,c,rfl,mc,-⟩:=id h;unfold maxLen at m1;have iA:∀i,∃l,WideAt.IsKeyLit l/\(i<n->keyOf Tryz.prog 266 (.agg #[.string (f i).set,.string (f i).name])=some l):=fun i=>by
  by_cases mA:i<n
  ·obtain⟨b,off,vd,_,hs⟩:=h.cells mA;obtain⟨l,hl⟩:=zN5 hs.zPN.2 hs.zPN.1;exact⟨l,zOe.key hl,fun _=>hl⟩
  ·exact⟨.string [],trivial,fun h=>absurd h mA⟩
 obtain⟨key,nA,oA⟩:∃key:Nat->Lit,zCl key/\∀i,i<n->keyOf Tryz.prog 266 (.agg #[.string (f i).set,.string (f i).name])=some (key i):=⟨fun i=>(iA i).choose,fun i=>(iA i).choose_spec.1,fun i=>(iA i).choose_spec.2⟩;have sA:=zB nA;have kA:=zB oA;clear h iA nA oA;have HM:=zB (World.ownsMap_made w Tryz.prog 266 zBV);have aB:=@run_makeMap Tryz.prog;go_enter Tryz.func223,Tryz.ntmps223;go_wp2
 go_loopw [9] (fun i wr=>∃k:Nat,k<=n/\i = .int .i64 k/\wr.ownsMap Tryz.prog 266 zBV w.heap.size k (putD key (fun i=>.int .i64 (f i).id) k)/\Below w.heap.size w wr/\w.heap.size+1<=wr.heap.size) (fun i _=>n - (intOf i).toNat)
 case atStart=>exact⟨0,Nat.zero_le _,rfl,HM.out,zC _ _,by rw[World.size_alloc];omega⟩
 case round=>
  clear HM;obtain⟨k,hk,rfl,eA,hb,hz⟩:=hrel;have cA:=zB eA;clear eA;by_cases pA:k<n
  ·have vA:(k:Int)<(n:Int):=(by omega);obtain⟨b,off,vd,rfl,bA⟩:=(Hp.out.zO9 hb).cells pA;obtain⟨-,ad,cd,rfl,-,-⟩:=id bA.zPK;have gA:=zC wr (.cells #[.int .i64 (f k).id,.string (f k).name,.string (f k).set,.int .i64 (f k).zPH,.int .i64 (f k).time,.int .i64 (f k).rs,.int .i64 (f k).rb,.slice ad (f k).dn cd] 99);have rA:=zB (yx.new wr (.int .i64 (f k).id) (.string (f k).name) (.string (f k).set) (.int .i64 (f k).zPH) (.int .i64 (f k).time) (.int .i64 (f k).rs) (.int .i64 (f k).rb) (.slice ad (f k).dn cd) 99);have lA:=zA hb gA;have q0:=bA.c0;have q1:=bA.c1;have q2:=bA.c2;have q3:=bA.c3;have q4:=bA.c4;have q5:=bA.c5;have q6:=bA.c6;have q7:=bA.c7;have jA:=zB (kA.out k pA);obtain⟨⟨⟨y0,-⟩,⟨y1,-⟩,⟨y2,-⟩,⟨y3,-⟩⟩,⟨y4,-⟩,⟨y5,-⟩,⟨y6,-⟩,⟨y7,-⟩⟩:=rA.out;have dA:=zB (cA.out.kept (yW gA none) (by simp));have bB:=gA.size;clear bA gA;go_wp2_with (first
    | (at_mapUpdate;refine wpList_mapUpdate_own _ rfl _ _ _ 265 rfl 266 2 zOe zM3 zBV w.heap.size k _ rfl dA.out (by unfold maxLen;omega) _ _ _ rfl rfl jA.out _ [] (zA2 _) ?_;intro w1 fA aA)
    | go_in)
   go_roundw
   case rel=>exact⟨k+1,by omega,by go_num,fA,lA.grown aA lA.size (fun j hj=>by cases hj;omega),by have:=aA.size;omega⟩
   case measure=>simp[intOf];omega
  ·obtain rfl:k=n:=(by omega);have tA:=zB (zFb sA.out (fun i=>.int .i64 (f i).id) k);have HN:=zB (zBo.iff (f:=f) kA.out);go_wp2_with (first
    | (at_len;refine wpList_len_own _ rfl _ 265 rfl 266 2 zM3 zBV w.heap.size k _ rfl cA.out ?_)
    | go_in)
   go_ret;refine⟨⟨_,rfl,?_⟩,hb⟩;have h1:=tA.out.2;have h2:=HN.out;simp only[beq_iff_eq,Int.natCast_inj];exact h1.trans h2
def zDX(f:Nat->zY):Nat->zY
 | 0=>yG
 | k+1=>f k
def zGL(W:zE)(i:Nat):Prop:=zFL W (W.zPD i).set/\yE (W.zPD i).name/\(W.zPD i).zPH<(W.zPD i).id/\Mid (zDX W.zPD i).id (W.zPD i).id W.next/\Mid (zDX W.zPD i).time (W.zPD i).time W.time
def zMz(W:zE):Prop:=W.pn<=20/\(∀i,i<W.pn->zGL W i)/\zBo W.pn W.zPD
theorem zKf(w:World):(zeroValue 67).run Tryz.prog w = .ok (.agg #[.string ⟨#[]⟩,.int .i64 0,.int .i64 0,.int .i64 0,.int .i64 0,.slice none 0 0]) w:=by kernel_rfl
theorem zMk{W:zE}{vd:Nat->Value}(hd:∀i,i<W.sn->∃a n c,vd i = .slice a n c)(x:ByteArray):∃(s0:ByteArray) (i1 i2 i3 i4:Int) (a:Option Addr) (n c:Nat),(putD (fun i=>zDB (W.zPG i).name) (fun i=>zDC (vd i) (W.zPG i)) W.sn).atKey (zDB x) (.held (.agg #[.string ⟨#[]⟩,.int .i64 0,.int .i64 0,.int .i64 0,.int .i64 0,.slice none 0 0])) = .held (.agg #[.string s0,.int .i64 i1,.int .i64 i2,.int .i64 i3,.int .i64 i4,.slice a n c]):=by
 have hk:zCl (fun i=>zDB (W.zPG i).name):=fun i=>zJy _
 have:∀k,k<=W.sn->∃(s0:ByteArray) (i1 i2 i3 i4:Int) (a:Option Addr) (n c:Nat),(putD (fun i=>zDB (W.zPG i).name) (fun i=>zDC (vd i) (W.zPG i)) k).atKey (zDB x) (.held (.agg #[.string ⟨#[]⟩,.int .i64 0,.int .i64 0,.int .i64 0,.int .i64 0,.slice none 0 0])) = .held (.agg #[.string s0,.int .i64 i1,.int .i64 i2,.int .i64 i3,.int .i64 i4,.slice a n c]):=by
  intro k
  induction k with
  | zero=>exact fun _=>⟨⟨#[]⟩,0,0,0,0,none,0,0,zFa hk _ (fun i hi=>absurd hi (Nat.not_lt_zero _)) _⟩
  | succ k ih=>
   intro aA;by_cases e:zDB (W.zPG k).name=zDB x
   ·obtain⟨a,n,c,hv⟩:=hd k (by omega);refine⟨(W.zPG k).name,(W.zPG k).origin,(W.zPG k).zPH,(W.zPG k).rs,(W.zPG k).rb,a,n,c,?_⟩;rw[<-e];refine(atKey_put_same (zBi hk _ k).isMap (hk k) _ _).trans ?_;show DataW.held (zDC (vd k) (W.zPG k))=_;rw[hv];rfl
   ·obtain⟨s0,i1,i2,i3,i4,a,n,c,h⟩:=ih (by omega);exact⟨s0,i1,i2,i3,i4,a,n,c,(atKey_put_other (Ne.symm e) _ _).trans h⟩
 exact this W.sn (Nat.le_refl _)
theorem zNq{W:zE}{vd:Nat->Value}(x:ByteArray):Maps.has (putD (fun i=>zDB (W.zPG i).name) (fun i=>zDC (vd i) (W.zPG i)) W.sn) (zDB x)=true↔zFL W x:=by
 rw[zCj (fun i=>zJy _)];constructor
 ·rintro⟨i,hi,e⟩;exact⟨i,hi,zNN e⟩
 ·rintro⟨i,hi,e⟩;exact⟨i,hi,by rw[e]⟩
abbrev put8(w:World)(b:Nat)(u0 u1 u2 u3 u4 u5 u6 u7:Value):World:=(((((((w.setCell ⟨b,0,none⟩ u0).setCell ⟨b,1,none⟩ u1).setCell ⟨b,2,none⟩ u2).setCell ⟨b,3,none⟩ u3).setCell ⟨b,4,none⟩ u4).setCell ⟨b,5,none⟩ u5).setCell ⟨b,6,none⟩ u6).setCell ⟨b,7,none⟩ u7
theorem yx.put{w:World}{b:Nat}{v0 v1 v2 v3 v4 v5 v6 v7:Value}(h:yx w b v0 v1 v2 v3 v4 v5 v6 v7)(u0 u1 u2 u3 u4 u5 u6 u7:Value):yx (put8 w b u0 u1 u2 u3 u4 u5 u6 u7) b u0 u1 u2 u3 u4 u5 u6 u7:=by
 obtain⟨⟨h0,h1,h2,h3⟩,h4,h5,h6,h7⟩:=h;refine⟨⟨?_,?_,?_,?_⟩,?_,?_,?_,?_⟩
 ·exact(((((((h0.set _).zPA _ (Or.inr (by omega))).zPA _ (Or.inr (by omega))).zPA _ (Or.inr (by omega))).zPA _ (Or.inr (by omega))).zPA _ (Or.inr (by omega))).zPA _ (Or.inr (by omega))).zPA _ (Or.inr (by omega))
 ·exact(((((((h1.zPA _ (Or.inr (by omega))).set _).zPA _ (Or.inr (by omega))).zPA _ (Or.inr (by omega))).zPA _ (Or.inr (by omega))).zPA _ (Or.inr (by omega))).zPA _ (Or.inr (by omega))).zPA _ (Or.inr (by omega))
 ·exact(((((((h2.zPA _ (Or.inr (by omega))).zPA _ (Or.inr (by omega))).set _).zPA _ (Or.inr (by omega))).zPA _ (Or.inr (by omega))).zPA _ (Or.inr (by omega))).zPA _ (Or.inr (by omega))).zPA _ (Or.inr (by omega))
 ·exact(((((((h3.zPA _ (Or.inr (by omega))).zPA _ (Or.inr (by omega))).zPA _ (Or.inr (by omega))).set _).zPA _ (Or.inr (by omega))).zPA _ (Or.inr (by omega))).zPA _ (Or.inr (by omega))).zPA _ (Or.inr (by omega))
 ·exact(((((((h4.zPA _ (Or.inr (by omega))).zPA _ (Or.inr (by omega))).zPA _ (Or.inr (by omega))).zPA _ (Or.inr (by omega))).set _).zPA _ (Or.inr (by omega))).zPA _ (Or.inr (by omega))).zPA _ (Or.inr (by omega))
 ·exact(((((((h5.zPA _ (Or.inr (by omega))).zPA _ (Or.inr (by omega))).zPA _ (Or.inr (by omega))).zPA _ (Or.inr (by omega))).zPA _ (Or.inr (by omega))).set _).zPA _ (Or.inr (by omega))).zPA _ (Or.inr (by omega))
 ·exact(((((((h6.zPA _ (Or.inr (by omega))).zPA _ (Or.inr (by omega))).zPA _ (Or.inr (by omega))).zPA _ (Or.inr (by omega))).zPA _ (Or.inr (by omega))).zPA _ (Or.inr (by omega))).set _).zPA _ (Or.inr (by omega))
 ·exact(((((((h7.zPA _ (Or.inr (by omega))).zPA _ (Or.inr (by omega))).zPA _ (Or.inr (by omega))).zPA _ (Or.inr (by omega))).zPA _ (Or.inr (by omega))).zPA _ (Or.inr (by omega))).zPA _ (Or.inr (by omega))).set _
theorem zF.put8(w:World)(b:Nat)(u0 u1 u2 u3 u4 u5 u6 u7:Value):zF (fun k=>k=b) w (put8 w b u0 u1 u2 u3 u4 u5 u6 u7):=
 (((((((zF.put w b 0 u0).trans (zF.put _ b 1 u1)).trans (zF.put _ b 2 u2)).trans (zF.put _ b 3 u3)).trans (zF.put _ b 4 u4)).trans (zF.put _ b 5 u5)).trans (zF.put _ b 6 u6)).trans (zF.put _ b 7 u7)
theorem zBO.put8{w:World}{W:zE}{M n b:Nat}{vd:Nat->Value}(h:zBO w W M n vd)(hb:M≠b)(u0 u1 u2 u3 u4 u5 u6 u7:Value):zBO (Go.Proofs.YtmgeglgboadfiaaGreatDoor.put8 w b u0 u1 u2 u3 u4 u5 u6 u7) W M n vd:=
 (((((((World.ownsMap.setCell h hb u0).setCell hb u1).setCell hb u2).setCell hb u3).setCell hb u4).setCell hb u5).setCell hb u6).setCell hb u7
theorem zKp{B:Nat}{w w':World}(h:Below B w w'){b:Nat}(hb:B<=b)(u0 u1 u2 u3 u4 u5 u6 u7:Value):Below B w (put8 w' b u0 u1 u2 u3 u4 u5 u6 u7):=
 (((((((h.setCell hb u0).setCell hb u1).setCell hb u2).setCell hb u3).setCell hb u4).setCell hb u5).setCell hb u6).setCell hb u7
theorem zHB(v0 v1 v2 v3:Value)(lo hi:Nat)(W:zE)(w:World)(h:zd w lo hi v0 v1 v2 v3 W)(hs:W.sn<=8) :
  Calls Tryz.prog 204 #[zt v0 v1 v2 v3 W] w fun e w'=>zG (zMz W) e/\Below w.heap.size w w':=by
 have Hp:=zB h;obtain⟨m1,a,c,rfl,mc,-⟩:=id h.zPD;unfold maxLen at m1;clear h;have ha:=zC w (.cells #[v0,v1,.int .i64 W.time,.int .i64 W.next,v2,.slice a W.pn c] 37);have HB:=zB (zg.new w v0 v1 (.int .i64 W.time) (.int .i64 W.next) v2 (.slice a W.pn c) 37);obtain⟨⟨x0,-⟩,⟨x2,-⟩,⟨x4,-⟩,⟨x6,-⟩,⟨x8,-⟩,⟨iA,-⟩⟩:=HB.out;by_cases hn:W.pn<=20;rotate_left
 ·have cC:(20:Int)<(W.pn:Int):=(by omega);go_enter Tryz.func204,Tryz.ntmps204;go_wp2;go_ret;exact⟨zG.no fun h=>hn h.1,ha⟩
 have cC:¬(20:Int)<(W.pn:Int):=by omega
 go_enter Tryz.func204,Tryz.ntmps204;go_wp2_with fail;clear x0 x2 x4 x6 x8 iA;generalize w.alloc (.cells #[v0,v1,.int .i64 W.time,.int .i64 W.next,v2,.slice a W.pn c] 37)=W0 at ha HB ⊢;refine(zG5 v0 v1 v2 _ lo hi W W0 (Hp.out.zO9 ha) hs).mono ?_;rintro e w1 ⟨vd,rfl,gA,rB,gB⟩;have oB:∀i,i<W.sn->∃a n c,vd i = .slice a n c:=fun i aC=>by
  obtain⟨_,aa,cc,hv,_⟩:=rB i aC;exact⟨aa,_,cc,hv⟩
 have nA:=zB (zMk oB);have mA:=zB (zNq (W:=W) (vd:=vd));have rA:=zC w1 (.cells #[.int .i64 0,.string ⟨#[]⟩,.string ⟨#[]⟩,.int .i64 0,.int .i64 0,.int .i64 0,.int .i64 0,.slice none 0 0] 99);have cB:=zB ((HB.out.zO9 gB).zO9 rA);have sA:=zB (yx.new w1 (.int .i64 0) (.string ⟨#[]⟩) (.string ⟨#[]⟩) (.int .i64 0) (.int .i64 0) (.int .i64 0) (.int .i64 0) (.slice none 0 0) 99);have tA:=zB (gA.zO9 rA);have kB:=zB (zA (zA ha gB) rA);have mB:W0.heap.size+1<w1.heap.size:=gA.lt;have lB:=zB (show w.heap.size<W0.heap.size+1 by have:=HB.out.1.lt;omega);clear gA rB oB gB rA ha HB;obtain⟨⟨x0,-⟩,⟨x2,-⟩,⟨x4,-⟩,⟨x6,-⟩,⟨x8,-⟩,⟨iA,-⟩⟩:=cB.out;go_wp2;clear x0 x2 x4 x6 x8 iA;obtain⟨L,hL⟩:∃L,L=w1.heap.size:=⟨_,rfl⟩;rw[<-hL]at sA mB ⊢;obtain⟨M,hM⟩:∃M,M=W0.heap.size+1:=⟨_,rfl⟩;rw[<-hM]at tA mB lB ⊢;have eC:w.heap.size<L:=by have:=lB.out;omega
 go_loopw [18] (fun i wr=>∃(k:Nat) (al:Option Addr) (nl cl:Nat),k<=W.pn/\i = .int .i64 k/\(∀j,j<k->zGL W j)/\yx wr L (.int .i64 (zDX W.zPD k).id) (.string (zDX W.zPD k).name) (.string (zDX W.zPD k).set) (.int .i64 (zDX W.zPD k).zPH) (.int .i64 (zDX W.zPD k).time) (.int .i64 (zDX W.zPD k).rs) (.int .i64 (zDX W.zPD k).rb) (.slice al nl cl)/\zg wr w.heap.size v0 v1 (.int .i64 W.time) (.int .i64 W.next) v2 (.slice a W.pn c)/\zBO wr W M W.sn vd/\Below w.heap.size w wr) (fun i _=>W.pn - (intOf i).toNat)
 case atStart=>exact⟨0,none,0,0,Nat.zero_le _,rfl,fun j hj=>absurd hj (Nat.not_lt_zero _),sA.out,cB.out,tA.out,kB.out⟩
 case round=>
  clear sA cB tA kB hL hM;obtain⟨k,al,nl,cl,hk,rfl,oA,hV,hX,hM,hb⟩:=hrel;have lA:=zB oA;have HV:=zB hV;have HX:=zB hX;have HM:=zB hM;clear oA hV hX hM;obtain⟨⟨x0,-⟩,⟨x2,-⟩,⟨x4,-⟩,⟨x6,-⟩,⟨x8,-⟩,⟨iA,-⟩⟩:=HX.out;by_cases fA:k<W.pn
  ·have bC:(k:Int)<(W.pn:Int):=(by omega);obtain⟨b,off,fC,rfl,cA⟩:=(Hp.out.zPD.zO9 hb).cells fA;obtain⟨-,ad,cd,rfl,-,-⟩:=id cA.zPK;obtain⟨s0,i1,i2,i3,i4,sa,sn,sc,nB⟩:=nA.out (W.zPD k).set;have eB:=zB nB;have dA:=zB (zLp cA.zPN.2);have dC:=cA.zPN.1;clear nB;have tB:wr.heap.size≠L:=(by have:=HV.out.1.1.lt;omega);have jA:=zC wr (.cells #[.int .i64 (W.zPD k).id,.string (W.zPD k).name,.string (W.zPD k).set,.int .i64 (W.zPD k).zPH,.int .i64 (W.zPD k).time,.int .i64 (W.zPD k).rs,.int .i64 (W.zPD k).rb,.slice ad (W.zPD k).dn cd] 99);have kA:=zC (wr.alloc (.cells #[.int .i64 (W.zPD k).id,.string (W.zPD k).name,.string (W.zPD k).set,.int .i64 (W.zPD k).zPH,.int .i64 (W.zPD k).time,.int .i64 (W.zPD k).rs,.int .i64 (W.zPD k).rb,.slice ad (W.zPD k).dn cd] 99)) (.cells #[.string s0,.int .i64 i1,.int .i64 i2,.int .i64 i3,.int .i64 i4,.slice sa sn sc] 67);have aB:=zB (yx.new wr (.int .i64 (W.zPD k).id) (.string (W.zPD k).name) (.string (W.zPD k).set) (.int .i64 (W.zPD k).zPH) (.int .i64 (W.zPD k).time) (.int .i64 (W.zPD k).rs) (.int .i64 (W.zPD k).rb) (.slice ad (W.zPD k).dn cd) 99);have vA:=zB (HM.out.zO9 jA);have pA:=zB (aB.out.zO9 kA);have bB:=zB ((HV.out.zO9 jA).zO9 kA);have dB:=zB ((HX.out.zO9 jA).zO9 kA);have jB:=zB ((HM.out.zO9 jA).zO9 kA);have eA:=zA (zA hb jA) kA;have iB:((wr.alloc (.cells #[.int .i64 (W.zPD k).id,.string (W.zPD k).name,.string (W.zPD k).set,.int .i64 (W.zPD k).zPH,.int .i64 (W.zPD k).time,.int .i64 (W.zPD k).rs,.int .i64 (W.zPD k).rb,.slice ad (W.zPD k).dn cd] 99)).alloc (.cells #[.string s0,.int .i64 i1,.int .i64 i2,.int .i64 i3,.int .i64 i4,.slice sa sn sc] 67)).heap.size=wr.heap.size+2:=(by rw[World.size_alloc,World.size_alloc]);have q0:=cA.c0;have q1:=cA.c1;have q2:=cA.c2;have q3:=cA.c3;have q4:=cA.c4;have q5:=cA.c5;have q6:=cA.c6;have q7:=cA.c7;obtain⟨⟨⟨y0,-⟩,⟨y1,-⟩,⟨y2,-⟩,⟨y3,-⟩⟩,⟨y4,-⟩,⟨y5,-⟩,⟨y6,-⟩,⟨y7,-⟩⟩:=aB.out;obtain⟨⟨⟨z0,-⟩,⟨z1,-⟩,⟨z2,-⟩,⟨z3,-⟩⟩,⟨z4,-⟩,⟨z5,-⟩,⟨z6,-⟩,⟨z7,-⟩⟩:=pA.out;clear cA;by_cases bA:zFL W (W.zPD k).set;rotate_left
   ·have Hc:=zB (show Maps.has (putD (fun i=>zDB (W.zPG i).name) (fun i=>zDC (vd i) (W.zPG i)) W.sn) (zDB (W.zPD k).set)=false by rw[Bool.eq_false_iff];exact fun h=>bA ((mA.out _).1 h));have Hn:=zB (show ¬zGL W k from fun h=>bA h.1);clear bA;go_wp2_with (first
     | (at_lookup;refine zAR _ rfl _ _ 177 rfl 9 67 zOd zNp (zKf _) M W.sn _ rfl vA.out _ _ rfl dA.out _ eB.out false Hc.out ?_)
     | go_in)
    go_ret;exact⟨zG.no fun h=>Hn.out (h.2.1 k fA),eA⟩
   have fB:=zB bA;have Hc:=zB ((mA.out _).2 bA);clear bA;go_wp2_with (first
    | (at_lookup;refine zAR _ rfl _ _ 177 rfl 9 67 zOd zNp (zKf _) M W.sn _ rfl vA.out _ _ rfl dA.out _ eB.out true Hc.out ?_)
    | fail)
   clear x0 x2 x4 x6 x8 iA y0 y1 y2 y3 y4 y5 y6 y7 z0 z1 z2 z3 z4 z5 z6 z7 q0 q1 q2 q3 q4 q5 q6 q7 aB vA HV HX HM hb jA kA dA eB Hc;generalize (wr.alloc (.cells #[.int .i64 (W.zPD k).id,.string (W.zPD k).name,.string (W.zPD k).set,.int .i64 (W.zPD k).zPH,.int .i64 (W.zPD k).time,.int .i64 (W.zPD k).rs,.int .i64 (W.zPD k).rb,.slice ad (W.zPD k).dn cd] 99)).alloc (.cells #[.string s0,.int .i64 i1,.int .i64 i2,.int .i64 i3,.int .i64 i4,.slice sa sn sc] 67)=W2 at pA bB dB jB eA iB ⊢;generalize wr.heap.size=V8 at pA tB ⊢;obtain⟨⟨x0,-⟩,⟨x2,-⟩,⟨x4,-⟩,⟨x6,-⟩,⟨x8,-⟩,⟨iA,-⟩⟩:=dB.out;obtain⟨⟨⟨z0,-⟩,⟨z1,-⟩,⟨z2,-⟩,⟨z3,-⟩⟩,⟨z4,-⟩,⟨z5,-⟩,⟨z6,-⟩,⟨z7,-⟩⟩:=pA.out;obtain⟨⟨⟨l0,m0⟩,⟨l1,n1⟩,⟨l2,n2⟩,⟨l3,n3⟩⟩,⟨l4,n4⟩,⟨l5,n5⟩,⟨l6,n6⟩,⟨l7,n7⟩⟩:=bB.out;refine(zCv (W.zPD k).name _ dC).mono ?_;rintro e wn ⟨⟨tn,rfl,aA⟩,rfl⟩;by_cases hA:yE (W.zPD k).name;rotate_left
   ·have Hn:=zB (show ¬zGL W k from fun h=>hA h.2.1);obtain rfl:tn=false:=zW aA hA;clear aA hA;go_wp2;go_ret;exact⟨zG.no fun h=>Hn.out (h.2.1 k fA),eA⟩
   have HA:=zB hA;obtain rfl:tn=true:=aA.2 hA;clear aA hA;by_cases hg:(W.zPD k).id<=(W.zPD k).zPH
   ·have Hn:=zB (show ¬zGL W k from fun h=>by have:=h.2.2.1;omega);go_wp2;go_ret;exact⟨zG.no fun h=>Hn.out (h.2.1 k fA),eA⟩
   have Hg:=zB (show(W.zPD k).zPH<(W.zPD k).id by omega);go_wp2_with fail;clear hg;refine(zFl _ _ _ _).mono ?_;rintro e wn ⟨⟨tn,rfl,aA⟩,rfl⟩;by_cases hB:Mid (zDX W.zPD k).id (W.zPD k).id W.next;rotate_left
   ·have Hn:=zB (show ¬zGL W k from fun h=>hB h.2.2.2.1);obtain rfl:tn=false:=zW aA hB;clear aA hB;go_wp2;go_ret;exact⟨zG.no fun h=>Hn.out (h.2.1 k fA),eA⟩
   have HB:=zB hB;obtain rfl:tn=true:=aA.2 hB;clear aA hB;go_wp2_with fail;refine(zFl _ _ _ _).mono ?_;rintro e wn ⟨⟨tn,rfl,aA⟩,rfl⟩;by_cases hB:Mid (zDX W.zPD k).time (W.zPD k).time W.time;rotate_left
   ·have Hn:=zB (show ¬zGL W k from fun h=>hB h.2.2.2.2);obtain rfl:tn=false:=zW aA hB;clear aA hB;go_wp2;go_ret;exact⟨zG.no fun h=>Hn.out (h.2.1 k fA),eA⟩
   have sB:=zB hB;obtain rfl:tn=true:=aA.2 hB;clear aA hB;go_wp2;go_roundw
   case rel=>exact⟨k+1,_,_,_,by omega,by go_num,zr fA lA.out ⟨fB.out,HA.out,Hg.out,HB.out,sB.out⟩,bB.out.put _ _ _ _ _ _ _ _,dB.out.zPF (zF.put8 _ L _ _ _ _ _ _ _ _) (by omega),jB.out.put8 (by omega) _ _ _ _ _ _ _ _,zKp eA (by omega) _ _ _ _ _ _ _ _⟩
   case measure=>simp[intOf];omega
  ·obtain rfl:k=W.pn:=(by omega);go_wp2_with fail;clear x0 x2 x4 x6 x8 iA;refine(zGm _ W.pn lo hi W.zPD _ (Hp.out.zPD.zO9 hb) hn).mono ?_;rintro e w6 ⟨⟨t6,rfl,pB⟩,vB⟩;have Ht:=zB pB;clear pB;go_wp2;go_ret;exact⟨⟨t6,rfl,Ht.out.trans ⟨fun hA=>⟨hn,lA.out,hA⟩,fun hA=>hA.2.2⟩⟩,zA hb vB⟩
def yy(W:zE):Prop:=∀i,i<W.pn->∀j,j<i->(W.zPD j).id≠(W.zPD i).id
def zAq(w:World)(lo hi:Nat)(W:zE)(A:Nat):Prop:=∃M vd,zQ w A 0 (.map (some M))/\zAL w W M W.pn vd/\zDm w lo hi W.pn W.zPD vd
abbrev zEJ(A:Nat):Value:=.func (.func 190) #[] #[.pointer (some ⟨A,0,none⟩)]
theorem zAq.zO9{w w':World}{lo hi:Nat}{W:zE}{A:Nat}(h:zAq w lo hi W A)(t:Below w.heap.size w w'):zAq w' lo hi W A:=by
 obtain⟨M,vd,h1,h2,h3⟩:=h;exact⟨M,vd,h1.zO9 t,h2.zO9 t,fun i aA=>(h3 i aA).zO9 t⟩
theorem zFi(w:World):(zeroValue 99).run Tryz.prog w = .ok (.agg #[.int .i64 0,.string ⟨#[]⟩,.string ⟨#[]⟩,.int .i64 0,.int .i64 0,.int .i64 0,.int .i64 0,.slice none 0 0]) w:=by kernel_rfl
theorem zHD{W:zE}{w:World}{lo hi:Nat}{vd:Nat->Value}(hD:yy W)(hd:zDm w lo hi W.pn W.zPD vd)(x:Int):∃a c,(putD (fun i=>zEQ (W.zPD i).id) (fun i=>qX (vd i) (W.zPD i)) W.pn).atKey (zEQ x) (.held (.agg #[.int .i64 0,.string ⟨#[]⟩,.string ⟨#[]⟩,.int .i64 0,.int .i64 0,.int .i64 0,.int .i64 0,.slice none 0 0])) = .held (qX (.slice a (zK W x).dn c) (zK W x))/\zR w lo hi (.slice a (zK W x).dn c) (zK W x).dn (zK W x).ds (zK W x).db:=by
 have hk:zCl (fun i=>zEQ (W.zPD i).id):=fun i=>zGg _
 by_cases hx:∃k,qM W x k
 ·obtain⟨k,aA⟩:=hx;rw[qx aA];have hp:=hd k aA.1;obtain⟨_,a,c,hv,_⟩:=id hp;refine⟨a,c,?_,by rw[<-hv];exact hp⟩;have:=zGF hk (fun i=>qX (vd i) (W.zPD i)) (.held (.agg #[.int .i64 0,.string ⟨#[]⟩,.string ⟨#[]⟩,.int .i64 0,.int .i64 0,.int .i64 0,.int .i64 0,.slice none 0 0])) W.pn k aA.1 (fun j h1 h2 e=>hD j h2 k h1 (zEy e).symm);rw[aA.2.1]at this;rw[this,hv]
 ·have e:zK W x=yG:=(by unfold zK;rw[dif_neg hx]);rw[e];refine⟨none,0,?_,⟨Nat.zero_le _,none,0,rfl,Nat.le_refl _,fun h=>absurd h (by simp[yG])⟩⟩;refine zFa hk _ (fun i bA e2=>?_) _;exact hx (zFe (Nat.le_refl _) ⟨i,bA,zEy e2⟩)
theorem zA9(lo hi:Nat)(W:zE)(A:Nat)(x:Int)(w:World)(h:zAq w lo hi W A)(hD:yy W)(hx:(Lit.int .i64 x).wf=true)(hn:W.pn<=20) :
  Calls Tryz.prog 190 #[.int .i64 x,.pointer (some ⟨A,0,none⟩)] w fun e w'=>∃a c,e = .returned (qX (.slice a (zK W x).dn c) (zK W x))/\zR w lo hi (.slice a (zK W x).dn c) (zK W x).dn (zK W x).ds (zK W x).db/\Below w.heap.size w w':=by
 obtain⟨M,vd,hc,hm,hd⟩:=h;obtain⟨a,c,eA,hp⟩:=zHD hD hd x;have dA:=zB eA;have fA:=zB hp;have aA:=zB (zEz hx);clear eA hp hd hx;unfold qX at dA ⊢;generalize zK W x=S at *;have bA:=zC w (.cells #[.int .i64 0,.string ⟨#[]⟩,.string ⟨#[]⟩,.int .i64 0,.int .i64 0,.int .i64 0,.int .i64 0,.slice none 0 0] 99);have HM:=zB (hm.zO9 bA);obtain⟨x0,-⟩:=hc.zO9 bA;have cA:=zC w (.cells #[.int .i64 S.id,.string S.name,.string S.set,.int .i64 S.zPH,.int .i64 S.time,.int .i64 S.rs,.int .i64 S.rb,.slice a S.dn c] 99);obtain⟨⟨⟨y0,-⟩,⟨y1,-⟩,⟨y2,-⟩,⟨y3,-⟩⟩,⟨y4,-⟩,⟨y5,-⟩,⟨y6,-⟩,⟨y7,-⟩⟩:=yx.new w (.int .i64 S.id) (.string S.name) (.string S.set) (.int .i64 S.zPH) (.int .i64 S.time) (.int .i64 S.rs) (.int .i64 S.rb) (.slice a S.dn c) 99;clear hm hc bA;go_enter Tryz.func190,Tryz.ntmps190;go_wp2_with (first
  | (at_lookup;refine zCH _ rfl _ _ 218 rfl 2 99 zNP zHC (zFi _) M W.pn _ rfl HM.out _ _ rfl aA.out _ dA.out ?_)
  | go_in)
 refine bodyPost_ret (v:=.agg #[.int .i64 S.id,.string S.name,.string S.set,.int .i64 S.zPH,.int .i64 S.time,.int .i64 S.rs,.int .i64 S.rb,.slice a S.dn c]) (by simp[results,Tryz.results190,go_sem,y0,y1,y2,y3,y4,y5,y6,y7]) rfl ⟨a,c,rfl,fA.out,cA⟩
theorem zFk(v0 v1 v2 v3:Value)(lo hi:Nat)(W:zE)(w:World)(h:zd w lo hi v0 v1 v2 v3 W)(hn:W.pn<=20)(eA:zD3 W.pn W.zPD) :
  Calls Tryz.prog 152 #[zt v0 v1 v2 v3 W] w fun e w'=>∃A,e = .returned (zEJ A)/\zAq w' lo hi W A/\Below w.heap.size w w':=by
 have Hp:=zB h;clear h;have gA:∀(fn:Fn) (first cap:Array Value) (w:World),(Instr.makeFunc fn first cap).run Tryz.prog w = .ok (.func fn first cap) w:=fun _ _ _ _=>rfl
 have ha:=zC w (.cells #[v0,v1,.int .i64 W.time,.int .i64 W.next,v2,v3] 37);obtain⟨⟨x0,-⟩,⟨x2,-⟩,⟨x4,-⟩,⟨x6,-⟩,⟨x8,-⟩,⟨fA,-⟩⟩:=zg.new w v0 v1 (.int .i64 W.time) (.int .i64 W.next) v2 v3 37;go_enter Tryz.func152,Tryz.ntmps152;go_wp2_with fail;clear x0 x2 x4 x6 x8 fA;generalize w.alloc (.cells #[v0,v1,.int .i64 W.time,.int .i64 W.next,v2,v3] 37)=W0 at ha ⊢;refine(zED v0 v1 v2 v3 lo hi W W0 (Hp.out.zO9 ha) hn eA).mono ?_;rintro e w1 ⟨vd,rfl,hm,hd,bA⟩;have aA:=zC w1 (.cells #[.map (some (W0.heap.size+1))] 218);have hc:zQ (w1.alloc (.cells #[.map (some (W0.heap.size+1))] 218)) w1.heap.size 0 (.map (some (W0.heap.size+1))):=zH (heap_alloc_new _ _) rfl;have HA:=zB (show zAq (w1.alloc (.cells #[.map (some (W0.heap.size+1))] 218)) lo hi W w1.heap.size from⟨_,vd,hc,hm.zO9 aA,fun i dA=>((hd i dA).zO9 bA).zO9 aA⟩);have cA:=zA (zA ha bA) aA;clear hm hd bA aA hc;go_wp2;go_ret;exact⟨_,rfl,HA.out,cA⟩
end Go.Proofs.YtmgeglgboadfiaaGreatDoor
