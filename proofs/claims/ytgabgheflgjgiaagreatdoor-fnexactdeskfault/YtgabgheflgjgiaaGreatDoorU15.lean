/- A part of the proof. -/
import Derived.Test.YtgabgheflgjgiaaGreatDoorU14
import Derived.WideKeyPair
import Derived.DeepKeys4
import Derived.WideKeyEntry
import Derived.Deep.LoopGhost
import Derived.Shelf.Abstract
set_option linter.unusedVariables false
set_option maxRecDepth 20000
set_option maxHeartbeats 4000000
namespace Go.Proofs.YtgabgheflgjgiaaGreatDoor
open Go.RowKit Go.Maps
theorem zHd(v0 v1 v2 v3:Value)(lo hi:Nat)(W:zH)(w:World)(h:zr w lo hi v0 v1 v2 v3 W)(hP:zCh W)(hs:W.sn<=8)(hp:W.pn<=20) :
  Calls Tryz.prog 101 #[qT v0 v1 v2 v3 W] w fun e w'=>zK (∀i,i<W.sn->zCB W (W.zOy i).name (W.zOy i).zO0 (W.zOy i).origin) e/\Below w.heap.size w w':=by
 have Hp:=zB h;have HP:=zB hP;obtain⟨m1,a,c,rfl,mc,-⟩:=id h.zOw;obtain⟨m2,a',c',rfl,bC,-⟩:=id h.zOy;unfold maxLen at m1 m2;clear h hP;have ha:=zC w (.cells #[v0,v1,.int .i64 W.time,.int .i64 W.next,.slice a' W.sn c',.slice a W.pn c] 40);have HB:=zB (za.zOt w v0 v1 (.int .i64 W.time) (.int .i64 W.next) (.slice a' W.sn c') (.slice a W.pn c) 40);go_enter Tryz.func101,Tryz.ntmps101;go_wp2
 go_loopw [3] (fun i wr=>∃k:Nat,k<=W.sn/\i = .int .i64 k/\(∀j,j<k->zCB W (W.zOy j).name (W.zOy j).zO0 (W.zOy j).origin)/\za wr w.heap.size v0 v1 (.int .i64 W.time) (.int .i64 W.next) (.slice a' W.sn c') (.slice a W.pn c)/\Below w.heap.size w wr) (fun i _=>W.sn - (intOf i).toNat)
 case atStart=>exact⟨0,Nat.zero_le _,rfl,fun j hj=>absurd hj (Nat.not_lt_zero _),HB.out,ha⟩
 case round=>
  obtain⟨k,hk,rfl,mA,hX,hb⟩:=hrel;have fA:=zB mA;have HX:=zB hX;clear mA hX ha HB;obtain⟨⟨x0,-⟩,⟨x2,-⟩,⟨x4,-⟩,⟨x6,-⟩,⟨x8,-⟩,⟨jA,-⟩⟩:=HX.out;by_cases cA:k<W.sn;rotate_left
  ·obtain rfl:k=W.sn:=(by omega);go_wp2;go_ret;exact⟨zK.yes fA.out,hb⟩
  have mB:(k:Int)<(W.sn:Int):=(by omega);obtain⟨b,off,vd,rfl,-⟩:=(Hp.out.zOy.zOp hb).cells cA;go_wp2;clear x0 x2 x4 x6 x8 jA
  go_loopw [5,6] (fun o i wr=>∃j:Nat,j<=W.pn/\i = .int .i64 j/\o = .int .i64 (zAM W (W.zOy k).name j)/\za wr w.heap.size v0 v1 (.int .i64 W.time) (.int .i64 W.next) (.slice (some ⟨b,off,none⟩) W.sn c') (.slice a W.pn c)/\Below w.heap.size w wr) (fun _ i _=>W.pn - (intOf i).toNat)
  case atStart=>exact⟨0,Nat.zero_le _,rfl,rfl,HX.out,hb⟩
  case round=>
   clear HX hb;obtain⟨j,hj,rfl,rfl,hX,hb⟩:=hrel;have HX:=zB hX;clear hX;obtain⟨⟨x0,-⟩,⟨x2,-⟩,⟨x4,-⟩,⟨x6,-⟩,⟨x8,-⟩,⟨jA,-⟩⟩:=HX.out;obtain⟨b',dB,oB,e',eA⟩:=(Hp.out.zOy.zOp hb).cells cA;cases e';have n0:=eA.c0;have n1:=eA.c1;have n2:=eA.c2;clear eA;have vB:=zK3 W (W.zOy k).name j;by_cases jB:j<W.pn
   ·have kB:(j:Int)<(W.pn:Int):=(by omega);obtain⟨b2,aA,pB,rfl,kA⟩:=(Hp.out.zOw.zOp hb).cells jB;have q2:=kA.c2;clear kA;have rB:((zAM W (W.zOy k).name j:Nat):Int)<1000:=(by omega);by_cases he:(W.zOw j).set=(W.zOy k).name
    ·have f1:=zDJ he;have H1:=zB (zE4 he);clear he;go_wp2
     go_quiet (fail)
     go_wp2;go_roundw
     case rel=>exact⟨j+1,by omega,by go_num,by rw[H1.out];go_num,HX.out.zOp (zV (Below.refl _ _) _),zV hb _⟩
     case measure=>simp[intOf];omega
    ·have f1:=zBK he;have H1:=zB (zIq he);clear he;go_wp2
     go_quiet (fail)
     go_wp2;go_roundw
     case rel=>exact⟨j+1,by omega,by go_num,by rw[H1.out],HX.out.zOp (zV (Below.refl _ _) _),zV hb _⟩
     case measure=>simp[intOf];omega
   ·obtain rfl:j=W.pn:=(by omega);go_wp2;clear x0 x2 x4 x6 x8 jA n0 n1 n2
    go_loopw [4,7] (fun i x wr=>∃(n:Nat) (y:Int),i = .int .i64 n/\x = .int .i64 y/\zES W (W.zOy k).name (W.zOy k).zO0 n y/\za wr w.heap.size v0 v1 (.int .i64 W.time) (.int .i64 W.next) (.slice (some ⟨b,off,none⟩) W.sn c') (.slice a W.pn c)/\Below w.heap.size w wr) (fun _ x _=>(intOf x).toNat)
    case atStart=>exact⟨0,_,rfl,rfl,zES.start HP.out _ (HP.out.zOy k cA),HX.out,hb⟩
    case round=>
     clear HX hb;obtain⟨n,y,rfl,rfl,hw,hX,hb⟩:=hrel;have HX:=zB hX;have Hw:=zB hw;have nB:=hw.sum;have sB:=hw.least;clear hX hw;obtain⟨⟨x0,-⟩,⟨x2,-⟩,⟨x4,-⟩,⟨x6,-⟩,⟨x8,-⟩,⟨jA,-⟩⟩:=HX.out;obtain⟨b',dB,oB,e',eA⟩:=(Hp.out.zOy.zOp hb).cells cA;cases e';have n0:=eA.c0;have n1:=eA.c1;clear eA;by_cases hz:y=0
     ·have gA:=zB (show ¬zFl W (W.zOy k).name y by rw[hz];exact zIl HP.out _);have rA:(y == 0)=true:=(by simp[hz]);have sA:decide (y=0)=true:=(by simp[hz]);have tA:(y != 0)=false:=(by simp[hz]);clear hz;go_wp2_with fail
      go_quiet (fail)
      clear rA sA tA;have dA:=zB HX.out;clear x0 x2 x4 x6 x8 jA;obtain⟨⟨e0,-⟩,⟨e2,-⟩,⟨e4,-⟩,⟨e6,-⟩,⟨e8,-⟩,⟨vA,-⟩⟩:=dA.out;by_cases h1:n=zAM W (W.zOy k).name W.pn
      ·by_cases h2:y=(W.zOy k).origin
       ·have Hl:=zB ((zCw (origin:=(W.zOy k).origin) Hw.out.steps gA.out).2 ⟨h1,h2⟩);have g1:((n:Int) == (zAM W (W.zOy k).name W.pn:Int))=true:=(by simp[h1]);have g2:((n:Int) != (zAM W (W.zOy k).name W.pn:Int))=false:=(by simp[h1]);have g3:decide ((n:Int)=(zAM W (W.zOy k).name W.pn:Int))=true:=(by simp[h1]);have g4:(y == (W.zOy k).origin)=true:=(by simp[h2]);have g5:(y != (W.zOy k).origin)=false:=(by simp[h2]);have g6:decide (y=(W.zOy k).origin)=true:=(by simp[h2]);clear h1 h2;go_wp2;go_roundw
        case rel=>exact⟨k+1,by omega,by go_num,qE cA fA.out Hl.out,HX.out.zOp (zV (Below.refl _ _) _),zV hb _⟩
        case measure=>simp[intOf];omega
       ·have Hl:=zB (show ¬zCB W (W.zOy k).name (W.zOy k).zO0 (W.zOy k).origin from fun h=>h2 ((zCw Hw.out.steps gA.out).1 h).2);have g1:((n:Int) == (zAM W (W.zOy k).name W.pn:Int))=true:=(by simp[h1]);have g2:((n:Int) != (zAM W (W.zOy k).name W.pn:Int))=false:=(by simp[h1]);have g3:decide ((n:Int)=(zAM W (W.zOy k).name W.pn:Int))=true:=(by simp[h1]);have g4:(y == (W.zOy k).origin)=false:=(by simp[h2]);have g5:(y != (W.zOy k).origin)=true:=(by simp[h2]);have g6:decide (y=(W.zOy k).origin)=false:=(by simp[h2]);clear h1 h2;go_wp2;go_ret;exact⟨zK.no fun hA=>Hl.out (hA k cA),zV hb _⟩
      ·have Hl:=zB (show ¬zCB W (W.zOy k).name (W.zOy k).zO0 (W.zOy k).origin from fun h=>h1 ((zCw Hw.out.steps gA.out).1 h).1);have h3:¬(n:Int)=(zAM W (W.zOy k).name W.pn:Int):=(by omega);have g1:((n:Int) == (zAM W (W.zOy k).name W.pn:Int))=false:=(by simp[h3]);have g2:((n:Int) != (zAM W (W.zOy k).name W.pn:Int))=true:=(by simp[h3]);have g3:decide ((n:Int)=(zAM W (W.zOy k).name W.pn:Int))=false:=(by simp[h3]);clear h1 h3;go_wp2;go_ret;exact⟨zK.no fun hA=>Hl.out (hA k cA),zV hb _⟩
     ·obtain⟨kk,pA⟩:=(Hw.out.there.resolve_left hz).no;have lA:=zB pA;have aB:kk<W.pn:=pA.1;have lB:(kk:Int)<(W.pn:Int):=(by omega);have bB:=(HP.out.ids kk aB).1;have cB:=pA.2.1;have aC:1<=y:=(by omega);have oA:=HP.out.less kk aB;have gB:=zB (show(W.zOw kk).zO0<y by omega);clear pA bB cB oA;have rA:(y == 0)=false:=(by simp[hz]);have sA:decide (y=0)=false:=(by simp[hz]);have tA:(y != 0)=true:=(by simp[hz]);clear hz;obtain⟨b2,aA,pB,rfl,kA⟩:=(Hp.out.zOw.zOp hb).cells aB;have q2:=kA.c2;have q3:=kA.c3;clear kA;by_cases he:(W.zOw kk).set=(W.zOy k).name
      ·have eB:=zB (Hw.out.next HP.out lA.out he);rw[he]at q2;clear he;go_wp2_with fail;go_region_held3 (fun w'=>w'.cell? ⟨w.heap.size,0,none⟩=some v0/\w'.cell? ⟨w.heap.size,1,none⟩=some v1/\w'.cell? ⟨w.heap.size,2,none⟩=some (.int .i64 W.time)/\w'.cell? ⟨w.heap.size,3,none⟩=some (.int .i64 W.next)/\w'.cell? ⟨w.heap.size,4,none⟩=some (.slice (some ⟨b,off,none⟩) W.sn c')/\w'.cell? ⟨w.heap.size,5,none⟩=some (.slice (some ⟨b2,aA,none⟩) W.pn c)/\w'.cell? ⟨b2,aA+kk*8+2,none⟩=some (.string (W.zOy k).name)/\w'.cell? ⟨b,off+k*6,none⟩=some (.string (W.zOy k).name)) (go_keep)
        (first | (go_at_call 52;refine(zm v0 v1 _ _ lo hi W y _ ?_).mono ?_;(exact(Hp.out.zOp hb).zOp (Below.refl _ _).drew);rintro e w6 ⟨r,rfl,hF,bA⟩;obtain rfl:=zDZ lA.out hF;obtain⟨⟨y0,_⟩,⟨y1,_⟩,⟨y2,_⟩,⟨y3,_⟩,⟨y4,_⟩,⟨y5,_⟩⟩:=HX.out.zOp (zJ bA);have z2:=(bA.cell (p:=⟨b2,aA+kk*8+2,none⟩) (zD q2)).trans q2;have z0:=(bA.cell (p:=⟨b,off+k*6,none⟩) (zD n0)).trans n0))
       have dA:=zB (HX.out.zOp (zJ bA));have iA:=yw hb bA;have z3:=(bA.cell (p:=⟨b2,aA+kk*8+3,none⟩) (zD q3)).trans q3;have z1:=(bA.cell (p:=⟨b,off+k*6+1,none⟩) (zD n1)).trans n1;clear bA HX hb hF y0 y1 y2 y3 y4 y5 x0 x2 x4 x6 x8 jA q2 q3 n0 n1 rA sA tA;have tB:(n:Int)<1000000:=(by omega);obtain⟨⟨e0,-⟩,⟨e2,-⟩,⟨e4,-⟩,⟨e6,-⟩,⟨e8,-⟩,⟨vA,-⟩⟩:=dA.out;go_wp2_with fail;go_region_held3 (fun w'=>w'.cell? ⟨w.heap.size,0,none⟩=some v0/\w'.cell? ⟨w.heap.size,1,none⟩=some v1/\w'.cell? ⟨w.heap.size,2,none⟩=some (.int .i64 W.time)/\w'.cell? ⟨w.heap.size,3,none⟩=some (.int .i64 W.next)/\w'.cell? ⟨w.heap.size,4,none⟩=some (.slice (some ⟨b,off,none⟩) W.sn c')/\w'.cell? ⟨w.heap.size,5,none⟩=some (.slice (some ⟨b2,aA,none⟩) W.pn c)/\w'.cell? ⟨b2,aA+kk*8+3,none⟩=some (.int .i64 (W.zOw kk).zO0)) (go_keep)
        (first | (go_at_call 52;refine(zm v0 v1 _ _ lo hi W y _ ?_).mono ?_;(exact(Hp.out.zOp iA).zOp (Below.refl _ _).drew);rintro e w7 ⟨r,rfl,hF,nA⟩;obtain rfl:=zDZ lA.out hF;obtain⟨⟨y0,_⟩,⟨y1,_⟩,⟨y2,_⟩,⟨y3,_⟩,⟨y4,_⟩,⟨y5,_⟩⟩:=dA.out.zOp (zJ nA);have z4:=(nA.cell (p:=⟨b2,aA+kk*8+3,none⟩) (zD z3)).trans z3))
       have fB:=zB (dA.out.zOp (zJ nA));have iB:=yw iA nA;clear nA dA iA hF y0 y1 y2 y3 y4 y5 e0 e2 e4 e6 e8 vA;go_wp2;go_roundw
       case rel=>exact⟨n+1,_,by go_num,rfl,eB.out,fB.out,iB⟩
       case measure=>simp[intOf];have:=gB.out;have:=eB.out.least;omega
      have gA:=zB (zKS lA.out he);have f1:=zBK he;clear he;go_wp2_with fail;go_region_held3 (fun w'=>w'.cell? ⟨w.heap.size,0,none⟩=some v0/\w'.cell? ⟨w.heap.size,1,none⟩=some v1/\w'.cell? ⟨w.heap.size,2,none⟩=some (.int .i64 W.time)/\w'.cell? ⟨w.heap.size,3,none⟩=some (.int .i64 W.next)/\w'.cell? ⟨w.heap.size,4,none⟩=some (.slice (some ⟨b,off,none⟩) W.sn c')/\w'.cell? ⟨w.heap.size,5,none⟩=some (.slice (some ⟨b2,aA,none⟩) W.pn c)/\w'.cell? ⟨b2,aA+kk*8+2,none⟩=some (.string (W.zOw kk).set)/\w'.cell? ⟨b,off+k*6,none⟩=some (.string (W.zOy k).name)) (go_keep)
       (first | (go_at_call 52;refine(zm v0 v1 _ _ lo hi W y _ ?_).mono ?_;(exact(Hp.out.zOp hb).zOp (Below.refl _ _).drew);rintro e w6 ⟨r,rfl,hF,bA⟩;obtain rfl:=zDZ lA.out hF;obtain⟨⟨y0,_⟩,⟨y1,_⟩,⟨y2,_⟩,⟨y3,_⟩,⟨y4,_⟩,⟨y5,_⟩⟩:=HX.out.zOp (zJ bA);have z2:=(bA.cell (p:=⟨b2,aA+kk*8+2,none⟩) (zD q2)).trans q2;have z0:=(bA.cell (p:=⟨b,off+k*6,none⟩) (zD n0)).trans n0))
      have dA:=zB (HX.out.zOp (zJ bA));have iA:=yw hb bA;have z3:=(bA.cell (p:=⟨b2,aA+kk*8+3,none⟩) (zD q3)).trans q3;have z1:=(bA.cell (p:=⟨b,off+k*6+1,none⟩) (zD n1)).trans n1;clear bA HX hb hF y0 y1 y2 y3 y4 y5 x0 x2 x4 x6 x8 jA q2 q3 n0 n1 rA sA tA;clear f1;obtain⟨⟨e0,-⟩,⟨e2,-⟩,⟨e4,-⟩,⟨e6,-⟩,⟨e8,-⟩,⟨vA,-⟩⟩:=dA.out;by_cases h1:n=zAM W (W.zOy k).name W.pn
      ·by_cases h2:y=(W.zOy k).origin
       ·have Hl:=zB ((zCw (origin:=(W.zOy k).origin) Hw.out.steps gA.out).2 ⟨h1,h2⟩);have g1:((n:Int) == (zAM W (W.zOy k).name W.pn:Int))=true:=(by simp[h1]);have g2:((n:Int) != (zAM W (W.zOy k).name W.pn:Int))=false:=(by simp[h1]);have g3:decide ((n:Int)=(zAM W (W.zOy k).name W.pn:Int))=true:=(by simp[h1]);have g4:(y == (W.zOy k).origin)=true:=(by simp[h2]);have g5:(y != (W.zOy k).origin)=false:=(by simp[h2]);have g6:decide (y=(W.zOy k).origin)=true:=(by simp[h2]);clear h1 h2;go_wp2;go_roundw
        case rel=>exact⟨k+1,by omega,by go_num,qE cA fA.out Hl.out,dA.out,iA⟩
        case measure=>simp[intOf];omega
       ·have Hl:=zB (show ¬zCB W (W.zOy k).name (W.zOy k).zO0 (W.zOy k).origin from fun h=>h2 ((zCw Hw.out.steps gA.out).1 h).2);have g1:((n:Int) == (zAM W (W.zOy k).name W.pn:Int))=true:=(by simp[h1]);have g2:((n:Int) != (zAM W (W.zOy k).name W.pn:Int))=false:=(by simp[h1]);have g3:decide ((n:Int)=(zAM W (W.zOy k).name W.pn:Int))=true:=(by simp[h1]);have g4:(y == (W.zOy k).origin)=false:=(by simp[h2]);have g5:(y != (W.zOy k).origin)=true:=(by simp[h2]);have g6:decide (y=(W.zOy k).origin)=false:=(by simp[h2]);clear h1 h2;go_wp2;go_ret;exact⟨zK.no fun hA=>Hl.out (hA k cA),iA⟩
      ·have Hl:=zB (show ¬zCB W (W.zOy k).name (W.zOy k).zO0 (W.zOy k).origin from fun h=>h1 ((zCw Hw.out.steps gA.out).1 h).1);have h3:¬(n:Int)=(zAM W (W.zOy k).name W.pn:Int):=(by omega);have g1:((n:Int) == (zAM W (W.zOy k).name W.pn:Int))=false:=(by simp[h3]);have g2:((n:Int) != (zAM W (W.zOy k).name W.pn:Int))=true:=(by simp[h3]);have g3:decide ((n:Int)=(zAM W (W.zOy k).name W.pn:Int))=false:=(by simp[h3]);clear h1 h3;go_wp2;go_ret;exact⟨zK.no fun hA=>Hl.out (hA k cA),iA⟩
def zB9(W:zH)(i:Nat):Prop:=zC8 (zc W i).dn (zc W i).ds (zc W i).db (zCJ (zCR W (zc W i)) (yf W (zc W i)))
structure zBr (W:zH):Prop where
 right:zt W.zOv
 zO3:zAi W
 lines:∀i,i<W.sn->zCB W (W.zOy i).name (W.zOy i).zO0 (W.zOy i).origin
 zOw:∀i,i<W.pn->qQ W.zOv (W.zOw i).rs (W.zOw i).rb
 zOy:∀i,i<W.sn->qQ W.zOv (W.zOy i).rs (W.zOy i).rb/\zB9 W (W.pn+i)
 zO5:∀i,i<W.pn->zB9 W i
 reach:zDx W
 born:∀i,i<qf W->zB8 W i
 zO4:zFH W
theorem zKV{W:zH}(h:∀k,k<W.pn->qQ W.zOv (W.zOw k).rs (W.zOw k).rb)(x:Int):qQ W.zOv (zN W x).rs (zN W x).rb:=by
 by_cases hx:∃k,qo W x k
 ·obtain⟨k,hk⟩:=hx;rw[qX hk];exact h k hk.1
 ·have:zN W x=qu:=by
   unfold zN;rw[dif_neg hx]
  rw[this];exact Or.inl ⟨rfl,rfl⟩
theorem zHP{W:zH}(hR:zt W.zOv)(hN:zAi W)(h1:∀i,i<W.pn->qQ W.zOv (W.zOw i).rs (W.zOw i).rb)(h2:∀i,i<W.sn->qQ W.zOv (W.zOy i).rs (W.zOy i).rb):zAz W where
 right:=hR
 ids:=hN.prevOk.less
 tree:=fun i hi=>by
  by_cases hp:i<W.pn
  ·rw[qZ hp];exact h1 i hp
  ·have e:=yk W (i - W.pn);rw[show W.pn+(i - W.pn)=i by omega]at e;rw[e];unfold qf at hi;exact h2 _ (by omega)
 time:=fun i hi=>by
  by_cases hp:i<W.pn
  ·rw[qZ hp];have:1<=(W.zOw i).time:=(hN.2.2.2.2.2 i hp).1.2.2.1;show 0<=(W.zOw i).time;omega
  ·have e:=yk W (i - W.pn);rw[show W.pn+(i - W.pn)=i by omega]at e;rw[e];have:1<=W.time:=hN.1.1;show 0<=W.time;omega
theorem zLI{v0 v1 v2 v3 vd:Value}{lo hi:Nat}{W:zH}{w:World}(h:zr w lo hi v0 v1 v2 v3 W)(hR:zt W.zOv)(hO:∀k,k<W.pn->qQ W.zOv (W.zOw k).rs (W.zOw k).rb)(hP:zCA W){k:Nat}(hk:k<W.pn)(hD:zp w lo hi vd (W.zOw k).dn (W.zOw k).ds (W.zOw k).db)(w':World)(hb:Below w.heap.size w w') :
  Calls Tryz.prog 103 #[qT v0 v1 v2 v3 W,.int .i64 (W.zOw k).zO0,.agg #[.int .i64 (W.zOw k).rs,.int .i64 (W.zOw k).rb],vd] w' fun e aA=>zK (zB9 W k) e/\Below w'.heap.size w' aA:=by
 unfold zB9;rw[qZ hk];exact zFu v0 v1 v2 v3 vd lo hi lo hi _ _ _ W _ _ _ _ _ w' (h.zOp hb) (hD.zOp hb) hR (hO k hk) (zKV hO _) hP rfl rfl
theorem zMN{v0 v1 v2 v3 vd:Value}{lo hi:Nat}{W:zH}{w:World}(h:zr w lo hi v0 v1 v2 v3 W)(hR:zt W.zOv)(hO:∀k,k<W.pn->qQ W.zOv (W.zOw k).rs (W.zOw k).rb)(hP:zCA W){k:Nat}(hT:qQ W.zOv (W.zOy k).rs (W.zOy k).rb)(hD:zp w lo hi vd (W.zOy k).dn (W.zOy k).ds (W.zOy k).db)(w':World)(hb:Below w.heap.size w w') :
  Calls Tryz.prog 103 #[qT v0 v1 v2 v3 W,.int .i64 (W.zOy k).zO0,.agg #[.int .i64 (W.zOy k).rs,.int .i64 (W.zOy k).rb],vd] w' fun e aA=>zK (zB9 W (W.pn+k)) e/\Below w'.heap.size w' aA:=by
 unfold zB9;rw[yk];exact zFu v0 v1 v2 v3 vd lo hi lo hi _ _ _ W _ _ _ _ _ w' (h.zOp hb) (hD.zOp hb) hR hT (zKV hO _) hP rfl rfl
def zJ1(n:Nat)(f:Nat->zd):Prop:=∀i,i<n->∀k,k<i->¬((f k).set=(f i).set/\(f k).name=(f i).name)
def zN3(f:Nat->zd):Nat->zd
 | 0=>qu
 | k+1=>f k
def zOR(W:zH)(i:Nat):Prop:=zx W (W.zOw i).set/\qV (W.zOw i).name/\(W.zOw i).zO0<(W.zOw i).id/\Mid (zN3 W.zOw i).id (W.zOw i).id W.next/\Mid (zN3 W.zOw i).time (W.zOw i).time W.time
def zOF(W:zH):Prop:=W.pn<=20/\(∀i,i<W.pn->zOR W i)/\zJ1 W.pn W.zOw
def zKk(W:zH):Prop:=∀i,i<W.pn->∀j,j<i->(W.zOw j).id≠(W.zOw i).id
def zKm(W:zH)(i:Nat):Prop:=(zN W (zc W i).zO0).id=(zc W i).zO0
def zL6(l l':List (Int×Int))(w w':World)(v v':Value):Prop:=qH w' w.heap.size v l/\qH w' w.heap.size v' l'/\(∀q,v.ownBlock=some q->v'.ownBlock≠some q)/\Below w.heap.size w w'
theorem zJw{w1 w2:World}{base g cap:Nat}{v v':Value}{l l':List (Int×Int)}{x y:Int}(h':qH w1 base v' l')(ha:∀q,v.ownBlock=some q->v'.ownBlock≠some q)
  (aA:w2.ownsRow base 99 2 (.slice (some ⟨g,0,none⟩) (l.length+1) cap) (l.length+1) (pcl l ++ [.int .i64 x,.int .i64 y])) (hg:w1.grownBy w2 v.ownBlock) (bA:v.ownBlock=some g\/g=w1.heap.size) :
  qH w2 base (.slice (some ⟨g,0,none⟩) (l.length+1) cap) (l ++ [(x,y)])/\qH w2 base v' l'/\(∀q,(Value.slice (some ⟨g,0,none⟩) (l.length+1) cap).ownBlock=some q->v'.ownBlock≠some q):=by
 refine⟨?_,h'.zOr hg (fun q hq e=>ha q e hq),fun q hq e=>?_⟩
 ·unfold qH;rw[zCL,List.length_append];exact aA
 ·simp only[Value.ownBlock,Option.some.injEq]at hq;subst hq;rcases bA with h | h
  ·exact ha _ h e
  ·have:=(h'.lt e).2;omega
def zOl(W:zH)(m:zGR)(S:zd):Prop:=m.rb<=m.time/\zC8 (zFk (zY W.zOv m.rs m.rb) S.time).length (zg (zFk (zY W.zOv m.rs m.rb) S.time)) (zj (zFk (zY W.zOv m.rs m.rb) S.time)) (zCJ (zY W.zOv m.rs m.rb) (zY W.zOv S.rs S.rb))/\zC8 m.dn m.ds m.db (zCJ (zY W.zOv S.rs S.rb) (zIY (zY W.zOv m.rs m.rb) (zY W.zOv S.rs S.rb)))
def zOO(W:zH)(i:Nat):Prop:=zOl W (zc W i) (zN W (zc W i).zO0)
def zOG(W:zH):Prop:=(∀i,i<qf W->qQ W.zOv (zc W i).rs (zc W i).rb)/\∀i,i<qf W->zOO W i
structure zDK (W:zH):Prop where
 time:zCS W.time 1 900000
 next:zCS W.next 1 900000
 zOy:zKn W.sn W.zOy
 zOw:zOF W
structure zEn (W:zH):Prop where
 zO3:zDK W
 right:zt W.zOv
 prevs:∀i,i<qf W->zKm W i
 lines:∀i,i<W.sn->zCB W (W.zOy i).name (W.zOy i).zO0 (W.zOy i).origin
 trees:zOG W
 homes:zIP W
theorem zDK.range{W:zH}(h:zDK W):∀i,i<W.pn->1<=(W.zOw i).id/\(W.zOw i).id<W.next/\1<=(W.zOw i).time/\(W.zOw i).time<W.time
 | 0,hi=>by
  have:=(h.zOw.2.1 0 hi).2.2.2;have h1:Mid 0 (W.zOw 0).id W.next:=this.1;have h2:Mid 0 (W.zOw 0).time W.time:=this.2;have a1:=h1.1;have a2:=h1.2;have a3:=h2.1;have a4:=h2.2;omega
 | i+1,hi=>by
  have ih:=h.range i (by omega);have:=(h.zOw.2.1 (i+1) hi).2.2.2;have h1:Mid (W.zOw i).id (W.zOw (i+1)).id W.next:=this.1;have h2:Mid (W.zOw i).time (W.zOw (i+1)).time W.time:=this.2;have a1:=h1.1;have a2:=h1.2;have a3:=h2.1;have a4:=h2.2;omega
theorem zDK.rise{W:zH}(h:zDK W):∀i,i<W.pn->∀j,j<i->(W.zOw j).id<(W.zOw i).id
 | 0,_,j,hj=>absurd hj (Nat.not_lt_zero _)
 | i+1,hi,j,hj=>by
  have h1:Mid (W.zOw i).id (W.zOw (i+1)).id W.next:=(h.zOw.2.1 (i+1) hi).2.2.2.1;have a1:=h1.1;by_cases e:j=i
  ·subst e;exact a1
  ·have:=h.rise i (by omega) j (by omega);omega
theorem zDK.dist{W:zH}(h:zDK W):zKk W:=fun i hi j hj e=>by have:=h.rise i hi j hj;omega
theorem zG2{W:zH}{i:Nat}(hp:zCA W):zKm W i↔((zc W i).zO0=0\/qL W (zc W i).zO0):=by
 unfold zKm;constructor
 ·intro h;by_cases hx:∃k,qo W (zc W i).zO0 k
  ·obtain⟨k,hk⟩:=hx;exact Or.inr ⟨k,hk.1,hk.2.1⟩
  ·have e:zN W (zc W i).zO0=qu:=(by unfold zN;rw[dif_neg hx]);rw[e]at h;exact Or.inl h.symm
 ·rintro(h | h)
  ·rw[h,zET (fun k hk e=>by have:=hp k hk;omega)];rfl
  ·obtain⟨k,hk⟩:=h.no;rw[qX hk];exact hk.2.1
theorem zDK.prevOk{W:zH}(h:zDK W)(hp:∀i,i<qf W->zKm W i):zCh W where
 ids:=fun k hk=>by have h1:=h.range k hk;have h2:=h.next.2;omega
 zO0:=fun k hk=>by
  have:=(zG2 (fun k hk=>(h.range k hk).1)).1 (hp k (by unfold qf;omega));rw[qZ hk]at this;exact this
 less:=fun k hk=>(h.zOw.2.1 k hk).2.2.1
 zOy:=fun k hk=>by
  have:=(zG2 (fun k hk=>(h.range k hk).1)).1 (hp (W.pn+k) (by unfold qf;omega));rw[yk]at this;exact this
 zO3:=fun k hk=>zCo (h.zOy.2 k hk).1
theorem zJp{W:zH}(h:zCh W){name:ByteArray}{start:Int}(hs:start=0\/qL W start):∀{n:Nat} {e:Int},Steps W name start n e->(e=0\/qL W e)
 | 0,_,.zero=>hs
 | n+1,_,.next (k:=k) _ hk _=>h.zO0 k hk.1
theorem zG3{f:Nat->zu}{i:Nat}(hn:qV (f i).name):zAN (zJN f i) (f i).name↔(0<i->zAN (f (i - 1)).name (f i).name):=by
 cases i with
 | zero=>
  refine⟨fun _ h=>absurd h (by omega),fun _=>?_⟩;have aA:=zCo hn;unfold zAN zJN;have h0:(⟨#[]⟩:ByteArray).toList = []:=(by rw[Go.ByteArray.toList_eq]);rw[h0];cases hl:(f 0).name.toList with
  | nil=>rw[hl]at aA;exact absurd aA (by decide)
  | cons a l=>simp[Op.bytesLess]
 | succ i=>exact⟨fun h _=>h,fun h=>h (by omega)⟩
theorem qM(W:zH):zEn W↔zBr W:=by
 constructor
 ·intro h;have hP:=h.zO3.prevOk h.prevs;have hN:zAi W:=by
   refine⟨h.zO3.time,h.zO3.next,h.zO3.zOy.1,h.zO3.zOw.1,fun i hi=>?_,fun i hi=>?_⟩
   ·have hs:=h.zO3.zOy.2 i hi;refine⟨hs.1,(zG3 hs.1).1 hs.2,fun hz=>(hP.zOy i hi).resolve_left hz,fun hz=>?_⟩;obtain⟨n,e,aA,_,_,rfl⟩:=h.lines i hi;exact(zJp hP (hP.zOy i hi) aA).resolve_left hz
   ·have hs:=h.zO3.zOw.2.1 i hi;have hr:=h.zO3.range i hi;refine⟨⟨hr.1,hr.2.1,hr.2.2.1,hr.2.2.2,hs.2.1,hs.1⟩,⟨fun h0=>?_,fun hz=>⟨hs.2.2.1,(hP.zO0 i hi).resolve_left hz⟩⟩,fun k hk=>h.zO3.zOw.2.2 i hi k hk⟩;cases i with
    | zero=>omega
    | succ i=>exact⟨hs.2.2.2.1.1,hs.2.2.2.2.1⟩
  have hT:zAz W:=zHP h.right hN (fun i hi=>by have:=h.trees.1 i (by unfold qf;omega);rw[qZ hi]at this;exact this) (fun i hi=>by have:=h.trees.1 (W.pn+i) (by unfold qf;omega);rw[yk]at this;exact this);have hM:∀i,i<qf W->zHn W (zc W i):=fun i hi=>(zGt hT hi).1 (h.trees.2 i hi)
  have hh:=(zHt hT (fun j hj=>by have:=hP.pos j hj;omega) hM).1 h.homes;exact⟨h.right,hN,h.lines,fun i hi=>hT.snap hi,fun i hi=>⟨hT.set hi,(hM (W.pn+i) (by unfold qf;omega)).1⟩,fun i hi=>(hM i (by unfold qf;omega)).1,hh.1,fun i hi=>(hM i hi).2,hh.2⟩
 ·intro h;have hP:=h.zO3.prevOk;have hT:zAz W:=zHP h.right h.zO3 h.zOw (fun i hi=>(h.zOy i hi).1);have hM:∀i,i<qf W->zHn W (zc W i):=fun i hi=>by
   refine⟨?_,h.born i hi⟩;by_cases hp:i<W.pn
   ·exact h.zO5 i hp
   ·have:=(h.zOy (i - W.pn) (by unfold qf at hi;omega)).2;rw[show W.pn+(i - W.pn)=i by omega]at this;exact this
  have hh:=(zHt hT (fun j hj=>by have:=hP.pos j hj;omega) hM).2 ⟨h.reach,h.zO4⟩;refine⟨⟨h.zO3.1,h.zO3.2.1,⟨h.zO3.2.2.1,fun i hi=>?_⟩,⟨h.zO3.2.2.2.1,fun i hi=>?_,fun i hi k hk=>(h.zO3.2.2.2.2.2 i hi).2.2 k hk⟩⟩,h.right,fun i hi=>?_,h.lines,⟨hT.tree,fun i hi=>(zGt hT hi).2 (hM i hi)⟩,hh⟩
  ·have hs:=h.zO3.2.2.2.2.1 i hi;exact⟨hs.1,(zG3 hs.1).2 hs.2.1⟩
  ·have hs:=h.zO3.2.2.2.2.2 i hi;refine⟨hs.1.2.2.2.2.2,hs.1.2.2.2.2.1,hP.less i hi,?_,?_⟩
   ·cases i with
    | zero=>exact⟨by have:=hs.1.1;show(0:Int)<_;omega,hs.1.2.1⟩
    | succ i=>exact⟨(hs.2.1.1 (by omega)).1,hs.1.2.1⟩
   ·cases i with
    | zero=>exact⟨by have:=hs.1.2.2.1;show(0:Int)<_;omega,hs.1.2.2.2.1⟩
    | succ i=>exact⟨(hs.2.1.1 (by omega)).2,hs.1.2.2.2.1⟩
  ·refine(zG2 hP.pos).2 ?_;by_cases hp:i<W.pn
   ·rw[qZ hp];exact hP.zO0 i hp
   ·have e:=yk W (i - W.pn);rw[show W.pn+(i - W.pn)=i by omega]at e;rw[e];exact hP.zOy _ (by unfold qf at hi;omega)
open Go.ChangeMaps Go.MapKept
open Go.WideElems (Fit rd rg pl rd_val elemAt findIdx_arr findIdx_born modify_last set_self)
open Go.WideMaps (KeyLaw)
theorem zBd{n:Int}(h0:-9223372036854775808<=n)(h1:n<9223372036854775808):IntKind.i64.wrap n=n:=by
 unfold IntKind.wrap;simp only[IntKind.signed,IntKind.bits,Bool.true_and];split
 ·rename_i hc
  have aA:=of_decide_eq_true hc;omega
 ·rename_i hc
  have aA:=of_decide_eq_false (Bool.eq_false_iff.2 hc);omega
def zCj(W:zH)(long bad:Prop)(m:Nat)(Q:Nat->Prop)(ei:Nat->Nat)(r:Option Nat):Prop:=
 (long/\r=some 1)\/(¬long/\(¬zEn W\/bad)/\r=some 0)\/(¬long/\zEn W/\¬bad/\∃i,i<m/\¬Q i/\(∀j,j<i->Q j)/\r=some (ei i))\/(¬long/\zEn W/\¬bad/\(∀j,j<m->Q j)/\r=none)
theorem zLt{W:zH}{x:ByteArray}(h:zx W x):∃k,zAO W x k:=by
 obtain⟨k,hk,hn⟩:=h
 induction k using Nat.strongRecOn with
 | _ k ih=>
  by_cases e:∃j,j<k/\(W.zOy j).name=x
  ·obtain⟨j,hj,hx⟩:=e;exact ih j hj (by omega) hx
  ·exact⟨k,hk,hn,fun j hj hx=>e ⟨j,hj,hx⟩⟩
theorem zCj.impl{W:zH}{a b:Prop}{m:Nat}{Q:Nat->Prop}{ei:Nat->Nat}(h:zCj W a b m Q ei none):zEn W:=by
 rcases h with⟨_,e⟩ | ⟨_,_,e⟩ | ⟨_,_,_,k,hk,_,_,e⟩ | ⟨_,h2,_,h4,_⟩
 ·cases e
 ·cases e
 ·cases e
 ·exact h2
theorem zDL{a:ByteArray}:(∃i,i<1/\8000<((fun (_:Nat)=>a) i).size)↔8000<a.size:=⟨fun ⟨_,_,h⟩=>h,fun h=>⟨0,by omega,h⟩⟩
theorem zIT{a:ByteArray}:(∃i,i<1/\¬qV ((fun i=>match i with  | _=>a) i))↔¬qV a:=by
 constructor
 ·rintro⟨i,hi,h⟩;obtain rfl:i=0:=(by omega);exact h
 ·exact fun h=>⟨0,by omega,h⟩
structure zBA where
 zOx:zH
 zOz:zH
abbrev zI3(v0 v1 v2 v3 u0 u1 u2 u3:Value)(S:zBA):Value:=.agg #[v0,v1,.int .i64 S.zOx.time,.int .i64 S.zOx.next,v2,v3,u0,u1,.int .i64 S.zOz.time,.int .i64 S.zOz.next,u2,u3]
structure zBv (w:World) (lo hi:Nat) (v0 v1 v2 v3 u0 u1 u2 u3:Value) (S:zBA):Prop where
 zOx:zr w lo hi v0 v1 v2 v3 S.zOx
 zOz:zr w lo hi u0 u1 u2 u3 S.zOz
theorem zBv.zOp{w w':World}{lo hi:Nat}{v0 v1 v2 v3 u0 u1 u2 u3:Value}{S:zBA}(h:zBv w lo hi v0 v1 v2 v3 u0 u1 u2 u3 S)(t:Below w.heap.size w w'):zBv w' lo hi v0 v1 v2 v3 u0 u1 u2 u3 S:=⟨h.zOx.zOp t,h.zOz.zOp t⟩
theorem zBP.zOu{w:World}{lo hi bA aA:Nat}{v:Value}{n:Nat}{f:Nat->zu}(h:zBP w lo hi v n f)(h1:bA<=lo)(h2:hi<=aA)(hp:∀{v n f g},zp w lo hi v n f g->zp w bA aA v n f g):zBP w bA aA v n f:=by
 obtain⟨m,a,c,hv,hc,hx⟩:=h;refine⟨m,a,c,hv,hc,fun h0=>?_⟩;obtain⟨b,off,ha,l1,l2,h3⟩:=hx h0;refine⟨b,off,ha,by omega,by omega,fun i hi=>?_⟩;obtain⟨vd,hs⟩:=h3 i hi;exact⟨vd,hs.c0,hs.c1,hs.c2,hs.c3,hs.c4,hs.c5,hp hs.zO5,hs.zO6⟩
theorem zAh.zOu{w:World}{lo hi bA aA:Nat}{v:Value}{n:Nat}{f:Nat->zd}(h:zAh w lo hi v n f)(h1:bA<=lo)(h2:hi<=aA)(hp:∀{v n f g},zp w lo hi v n f g->zp w bA aA v n f g):zAh w bA aA v n f:=by
 obtain⟨m,a,c,hv,hc,hx⟩:=h;refine⟨m,a,c,hv,hc,fun h0=>?_⟩;obtain⟨b,off,ha,l1,l2,h3⟩:=hx h0;refine⟨b,off,ha,by omega,by omega,fun i hi=>?_⟩;obtain⟨vd,hs⟩:=h3 i hi;exact⟨vd,hs.c0,hs.c1,hs.c2,hs.c3,hs.c4,hs.c5,hs.c6,hs.c7,hp hs.zO5,hs.zO6⟩
theorem zBe.zOu{w:World}{lo hi bA aA:Nat}{v:Value}{n:Nat}{f:Nat->zO}(h:zBe w lo hi v n f)(h1:bA<=lo)(h2:hi<=aA):zBe w bA aA v n f:=by
 obtain⟨m,a,c,hv,hc,hx⟩:=h;refine⟨m,a,c,hv,hc,fun h0=>?_⟩;obtain⟨b,off,ha,l1,l2,h3⟩:=hx h0;refine⟨b,off,ha,by omega,by omega,fun i hi=>?_⟩;obtain⟨x0,x1,x2,c0,c1,c2,e0,hp,e2,hs⟩:=h3 i hi;exact⟨x0,x1,x2,c0,c1,c2,e0,hp.zOu h1 h2,e2,hs⟩
theorem zr.zOu{w:World}{lo hi bA aA:Nat}{v0 v1 v2 v3:Value}{W:zH}(h:zr w lo hi v0 v1 v2 v3 W)(h1:bA<=lo)(h2:hi<=aA):zr w bA aA v0 v1 v2 v3 W:=
 ⟨⟨h.zOv.1.zOu h1 h2,h.zOv.2.zOu h1 h2⟩,h.zOy.zOu h1 h2 (fun hp=>hp.zOu h1 h2),h.zOw.zOu h1 h2 (fun hp=>hp.zOu h1 h2)⟩
def zBk(w:World)(lo hi:Nat)(v0 v1 v2 v3 u0 u1 u2 u3:Value)(S:zBA):Prop:=∃l1 h1 l2 h2,zf w l1 h1 v0 v1 v2 v3 S.zOx/\zf w l2 h2 u0 u1 u2 u3 S.zOz/\lo<=l1/\h1<=hi/\lo<=l2/\h2<=hi/\(h1<=l2\/h2<=l1)
theorem zBk.at{w:World}{lo hi:Nat}{v0 v1 v2 v3 u0 u1 u2 u3:Value}{S:zBA}(h:zBk w lo hi v0 v1 v2 v3 u0 u1 u2 u3 S):zBv w lo hi v0 v1 v2 v3 u0 u1 u2 u3 S:=by
 obtain⟨l1,h1,l2,h2,a,b,c1,c2,c3,c4,_⟩:=h;exact⟨a.at.zOu c1 c2,b.at.zOu c3 c4⟩
end Go.Proofs.YtgabgheflgjgiaaGreatDoor
