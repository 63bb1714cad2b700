/- A part of the proof. -/
import Derived.Test.YtgabgheflgjgiaaGreatDoorV14
import Derived.WideKeyPair
import Derived.DeepKeys4
import Derived.WideKeyEntry
import Derived.Deep.LoopGhost
import Derived.Shelf.Abstract
set_option linter.unusedVariables false
set_option maxRecDepth 20000
set_option maxHeartbeats 4000000
namespace Go.Proofs.YtgabgheflgjgiaaGreatDoor
open Go.RowKit Go.Maps
theorem zHR(v0 v1 v2 v3:Value)(lo hi:Nat)(W:zH)(w:World)(h:zr w lo hi v0 v1 v2 v3 W)(hP:zCe W)(hs:W.sn<=8)(hp:W.pn<=20) :
  Calls Tryz.prog 101 #[qT v0 v1 v2 v3 W] w fun e w'=>zK (∀i,i<W.sn->zB9 W (W.zOd i).name (W.zOd i).zOg (W.zOd i).zOf) e/\Below w.heap.size w w':=by
 have Hp:=zB h;have HP:=zB hP;obtain⟨m1,a,c,rfl,mc,-⟩:=id h.zOb;obtain⟨m2,a',c',rfl,tB,-⟩:=id h.zOd;unfold maxLen at m1 m2;clear h hP;have ha:=zC w (.cells #[v0,v1,.int .i64 W.time,.int .i64 W.next,.slice a' W.sn c',.slice a W.pn c] 40);have HB:=zB (za.zOY w v0 v1 (.int .i64 W.time) (.int .i64 W.next) (.slice a' W.sn c') (.slice a W.pn c) 40);go_enter Tryz.func101,Tryz.ntmps101;go_wp2
 go_loopw [3] (fun i wr=>∃k:Nat,k<=W.sn/\i = .int .i64 k/\(∀j,j<k->zB9 W (W.zOd j).name (W.zOd j).zOg (W.zOd j).zOf)/\za wr w.heap.size v0 v1 (.int .i64 W.time) (.int .i64 W.next) (.slice a' W.sn c') (.slice a W.pn c)/\Below w.heap.size w wr) (fun i _=>W.sn - (intOf i).toNat)
 case atStart=>exact⟨0,Nat.zero_le _,rfl,fun j hj=>absurd hj (Nat.not_lt_zero _),HB.out,ha⟩
 case round=>
  obtain⟨k,hk,rfl,hall,hX,hb⟩:=hrel;have eA:=zB hall;have HX:=zB hX;clear hall hX ha HB;obtain⟨⟨x0,-⟩,⟨x2,-⟩,⟨x4,-⟩,⟨x6,-⟩,⟨x8,-⟩,⟨iA,-⟩⟩:=HX.out;by_cases hlt:k<W.sn;rotate_left
  ·obtain rfl:k=W.sn:=(by omega);go_wp2;go_ret;exact⟨zK.yes eA.out,hb⟩
  have jB:(k:Int)<(W.sn:Int):=(by omega);obtain⟨b,off,vd,rfl,-⟩:=(Hp.out.zOd.zOU hb).cells hlt;go_wp2;clear x0 x2 x4 x6 x8 iA
  go_loopw [5,6] (fun o i wr=>∃j:Nat,j<=W.pn/\i = .int .i64 j/\o = .int .i64 (zAL W (W.zOd k).name j)/\za wr w.heap.size v0 v1 (.int .i64 W.time) (.int .i64 W.next) (.slice (some ⟨b,off,none⟩) W.sn c') (.slice a W.pn c)/\Below w.heap.size w wr) (fun _ i _=>W.pn - (intOf i).toNat)
  case atStart=>exact⟨0,Nat.zero_le _,rfl,rfl,HX.out,hb⟩
  case round=>
   clear HX hb;obtain⟨j,hj,rfl,rfl,hX,hb⟩:=hrel;have HX:=zB hX;clear hX;obtain⟨⟨x0,-⟩,⟨x2,-⟩,⟨x4,-⟩,⟨x6,-⟩,⟨x8,-⟩,⟨iA,-⟩⟩:=HX.out;obtain⟨b',aB,lB,e',dA⟩:=(Hp.out.zOd.zOU hb).cells hlt;cases e';have n0:=dA.c0;have n1:=dA.c1;have n2:=dA.c2;clear dA;have rB:=zKn W (W.zOd k).name j;by_cases fB:j<W.pn
   ·have gB:(j:Int)<(W.pn:Int):=(by omega);obtain⟨b2,aA,mB,rfl,hs2⟩:=(Hp.out.zOb.zOU hb).cells fB;have q2:=hs2.c2;clear hs2;have nB:((zAL W (W.zOd k).name j:Nat):Int)<1000:=(by omega);by_cases he:(W.zOb j).set=(W.zOd k).name
    ·have f1:=zDF he;have H1:=zB (zEw he);clear he;go_wp2
     go_quiet (fail)
     go_wp2;go_roundw
     case rel=>exact⟨j+1,by omega,by go_num,by rw[H1.out];go_num,HX.out.zOU (zV (Below.refl _ _) _),zV hb _⟩
     case measure=>simp[intOf];omega
    ·have f1:=zBJ he;have H1:=zB (zId he);clear he;go_wp2
     go_quiet (fail)
     go_wp2;go_roundw
     case rel=>exact⟨j+1,by omega,by go_num,by rw[H1.out],HX.out.zOU (zV (Below.refl _ _) _),zV hb _⟩
     case measure=>simp[intOf];omega
   ·obtain rfl:j=W.pn:=(by omega);go_wp2;clear x0 x2 x4 x6 x8 iA n0 n1 n2
    go_loopw [4,7] (fun i x wr=>∃(n:Nat) (y:Int),i = .int .i64 n/\x = .int .i64 y/\zEM W (W.zOd k).name (W.zOd k).zOg n y/\za wr w.heap.size v0 v1 (.int .i64 W.time) (.int .i64 W.next) (.slice (some ⟨b,off,none⟩) W.sn c') (.slice a W.pn c)/\Below w.heap.size w wr) (fun _ x _=>(intOf x).toNat)
    case atStart=>exact⟨0,_,rfl,rfl,zEM.start HP.out _ (HP.out.zOd k hlt),HX.out,hb⟩
    case round=>
     clear HX hb;obtain⟨n,y,rfl,rfl,hw,hX,hb⟩:=hrel;have HX:=zB hX;have Hw:=zB hw;have kB:=hw.sum;have oB:=hw.least;clear hX hw;obtain⟨⟨x0,-⟩,⟨x2,-⟩,⟨x4,-⟩,⟨x6,-⟩,⟨x8,-⟩,⟨iA,-⟩⟩:=HX.out;obtain⟨b',aB,lB,e',dA⟩:=(Hp.out.zOd.zOU hb).cells hlt;cases e';have n0:=dA.c0;have n1:=dA.c1;clear dA;by_cases hz:y=0
     ·have fA:=zB (show ¬zFc W (W.zOd k).name y by rw[hz];exact zIY HP.out _);have nA:(y == 0)=true:=(by simp[hz]);have oA:decide (y=0)=true:=(by simp[hz]);have pA:(y != 0)=false:=(by simp[hz]);clear hz;go_wp2_with fail
      go_quiet (fail)
      clear nA oA pA;have cA:=zB HX.out;clear x0 x2 x4 x6 x8 iA;obtain⟨⟨e0,-⟩,⟨e2,-⟩,⟨e4,-⟩,⟨e6,-⟩,⟨e8,-⟩,⟨rA,-⟩⟩:=cA.out;by_cases h1:n=zAL W (W.zOd k).name W.pn
      ·by_cases h2:y=(W.zOd k).zOf
       ·have Hl:=zB ((zCs (zOf:=(W.zOd k).zOf) Hw.out.steps fA.out).2 ⟨h1,h2⟩);have g1:((n:Int) == (zAL W (W.zOd k).name W.pn:Int))=true:=(by simp[h1]);have g2:((n:Int) != (zAL W (W.zOd k).name W.pn:Int))=false:=(by simp[h1]);have g3:decide ((n:Int)=(zAL W (W.zOd k).name W.pn:Int))=true:=(by simp[h1]);have g4:(y == (W.zOd k).zOf)=true:=(by simp[h2]);have g5:(y != (W.zOd k).zOf)=false:=(by simp[h2]);have g6:decide (y=(W.zOd k).zOf)=true:=(by simp[h2]);clear h1 h2;go_wp2;go_roundw
        case rel=>exact⟨k+1,by omega,by go_num,qE hlt eA.out Hl.out,HX.out.zOU (zV (Below.refl _ _) _),zV hb _⟩
        case measure=>simp[intOf];omega
       ·have Hl:=zB (show ¬zB9 W (W.zOd k).name (W.zOd k).zOg (W.zOd k).zOf from fun h=>h2 ((zCs Hw.out.steps fA.out).1 h).2);have g1:((n:Int) == (zAL W (W.zOd k).name W.pn:Int))=true:=(by simp[h1]);have g2:((n:Int) != (zAL W (W.zOd k).name W.pn:Int))=false:=(by simp[h1]);have g3:decide ((n:Int)=(zAL W (W.zOd k).name W.pn:Int))=true:=(by simp[h1]);have g4:(y == (W.zOd k).zOf)=false:=(by simp[h2]);have g5:(y != (W.zOd k).zOf)=true:=(by simp[h2]);have g6:decide (y=(W.zOd k).zOf)=false:=(by simp[h2]);clear h1 h2;go_wp2;go_ret;exact⟨zK.no fun hA=>Hl.out (hA k hlt),zV hb _⟩
      ·have Hl:=zB (show ¬zB9 W (W.zOd k).name (W.zOd k).zOg (W.zOd k).zOf from fun h=>h1 ((zCs Hw.out.steps fA.out).1 h).1);have h3:¬(n:Int)=(zAL W (W.zOd k).name W.pn:Int):=(by omega);have g1:((n:Int) == (zAL W (W.zOd k).name W.pn:Int))=false:=(by simp[h3]);have g2:((n:Int) != (zAL W (W.zOd k).name W.pn:Int))=true:=(by simp[h3]);have g3:decide ((n:Int)=(zAL W (W.zOd k).name W.pn:Int))=false:=(by simp[h3]);clear h1 h3;go_wp2;go_ret;exact⟨zK.no fun hA=>Hl.out (hA k hlt),zV hb _⟩
     ·obtain⟨kk,mA⟩:=(Hw.out.there.resolve_left hz).no;have jA:=zB mA;have sA:kk<W.pn:=mA.1;have iB:(kk:Int)<(W.pn:Int):=(by omega);have tA:=(HP.out.ids kk sA).1;have vA:=mA.2.1;have sB:1<=y:=(by omega);have lA:=HP.out.less kk sA;have dB:=zB (show(W.zOb kk).zOg<y by omega);clear mA tA vA lA;have nA:(y == 0)=false:=(by simp[hz]);have oA:decide (y=0)=false:=(by simp[hz]);have pA:(y != 0)=true:=(by simp[hz]);clear hz;obtain⟨b2,aA,mB,rfl,hs2⟩:=(Hp.out.zOb.zOU hb).cells sA;have q2:=hs2.c2;have q3:=hs2.c3;clear hs2;by_cases he:(W.zOb kk).set=(W.zOd k).name
      ·have bB:=zB (Hw.out.next HP.out jA.out he);rw[he]at q2;clear he;go_wp2_with fail;go_region_held3 (fun w'=>w'.cell? ⟨w.heap.size,0,none⟩=some v0/\w'.cell? ⟨w.heap.size,1,none⟩=some v1/\w'.cell? ⟨w.heap.size,2,none⟩=some (.int .i64 W.time)/\w'.cell? ⟨w.heap.size,3,none⟩=some (.int .i64 W.next)/\w'.cell? ⟨w.heap.size,4,none⟩=some (.slice (some ⟨b,off,none⟩) W.sn c')/\w'.cell? ⟨w.heap.size,5,none⟩=some (.slice (some ⟨b2,aA,none⟩) W.pn c)/\w'.cell? ⟨b2,aA+kk*8+2,none⟩=some (.string (W.zOd k).name)/\w'.cell? ⟨b,off+k*6,none⟩=some (.string (W.zOd k).name)) (go_keep)
        (first | (go_at_call 52;refine(zm v0 v1 _ _ lo hi W y _ ?_).mono ?_;(exact(Hp.out.zOU hb).zOU (Below.refl _ _).drew);rintro e w6 ⟨r,rfl,hF,bA⟩;obtain rfl:=zDU jA.out hF;obtain⟨⟨y0,_⟩,⟨y1,_⟩,⟨y2,_⟩,⟨y3,_⟩,⟨y4,_⟩,⟨y5,_⟩⟩:=HX.out.zOU (zJ bA);have z2:=(bA.cell (p:=⟨b2,aA+kk*8+2,none⟩) (zD q2)).trans q2;have z0:=(bA.cell (p:=⟨b,off+k*6,none⟩) (zD n0)).trans n0))
       have cA:=zB (HX.out.zOU (zJ bA));have gA:=yw hb bA;have z3:=(bA.cell (p:=⟨b2,aA+kk*8+3,none⟩) (zD q3)).trans q3;have z1:=(bA.cell (p:=⟨b,off+k*6+1,none⟩) (zD n1)).trans n1;clear bA HX hb hF y0 y1 y2 y3 y4 y5 x0 x2 x4 x6 x8 iA q2 q3 n0 n1 nA oA pA;have pB:(n:Int)<1000000:=(by omega);obtain⟨⟨e0,-⟩,⟨e2,-⟩,⟨e4,-⟩,⟨e6,-⟩,⟨e8,-⟩,⟨rA,-⟩⟩:=cA.out;go_wp2_with fail;go_region_held3 (fun w'=>w'.cell? ⟨w.heap.size,0,none⟩=some v0/\w'.cell? ⟨w.heap.size,1,none⟩=some v1/\w'.cell? ⟨w.heap.size,2,none⟩=some (.int .i64 W.time)/\w'.cell? ⟨w.heap.size,3,none⟩=some (.int .i64 W.next)/\w'.cell? ⟨w.heap.size,4,none⟩=some (.slice (some ⟨b,off,none⟩) W.sn c')/\w'.cell? ⟨w.heap.size,5,none⟩=some (.slice (some ⟨b2,aA,none⟩) W.pn c)/\w'.cell? ⟨b2,aA+kk*8+3,none⟩=some (.int .i64 (W.zOb kk).zOg)) (go_keep)
        (first | (go_at_call 52;refine(zm v0 v1 _ _ lo hi W y _ ?_).mono ?_;(exact(Hp.out.zOU gA).zOU (Below.refl _ _).drew);rintro e w7 ⟨r,rfl,hF,kA⟩;obtain rfl:=zDU jA.out hF;obtain⟨⟨y0,_⟩,⟨y1,_⟩,⟨y2,_⟩,⟨y3,_⟩,⟨y4,_⟩,⟨y5,_⟩⟩:=cA.out.zOU (zJ kA);have z4:=(kA.cell (p:=⟨b2,aA+kk*8+3,none⟩) (zD z3)).trans z3))
       have cB:=zB (cA.out.zOU (zJ kA));have eB:=yw gA kA;clear kA cA gA hF y0 y1 y2 y3 y4 y5 e0 e2 e4 e6 e8 rA;go_wp2;go_roundw
       case rel=>exact⟨n+1,_,by go_num,rfl,bB.out,cB.out,eB⟩
       case measure=>simp[intOf];have:=dB.out;have:=bB.out.least;omega
      have fA:=zB (zKE jA.out he);have f1:=zBJ he;clear he;go_wp2_with fail;go_region_held3 (fun w'=>w'.cell? ⟨w.heap.size,0,none⟩=some v0/\w'.cell? ⟨w.heap.size,1,none⟩=some v1/\w'.cell? ⟨w.heap.size,2,none⟩=some (.int .i64 W.time)/\w'.cell? ⟨w.heap.size,3,none⟩=some (.int .i64 W.next)/\w'.cell? ⟨w.heap.size,4,none⟩=some (.slice (some ⟨b,off,none⟩) W.sn c')/\w'.cell? ⟨w.heap.size,5,none⟩=some (.slice (some ⟨b2,aA,none⟩) W.pn c)/\w'.cell? ⟨b2,aA+kk*8+2,none⟩=some (.string (W.zOb kk).set)/\w'.cell? ⟨b,off+k*6,none⟩=some (.string (W.zOd k).name)) (go_keep)
       (first | (go_at_call 52;refine(zm v0 v1 _ _ lo hi W y _ ?_).mono ?_;(exact(Hp.out.zOU hb).zOU (Below.refl _ _).drew);rintro e w6 ⟨r,rfl,hF,bA⟩;obtain rfl:=zDU jA.out hF;obtain⟨⟨y0,_⟩,⟨y1,_⟩,⟨y2,_⟩,⟨y3,_⟩,⟨y4,_⟩,⟨y5,_⟩⟩:=HX.out.zOU (zJ bA);have z2:=(bA.cell (p:=⟨b2,aA+kk*8+2,none⟩) (zD q2)).trans q2;have z0:=(bA.cell (p:=⟨b,off+k*6,none⟩) (zD n0)).trans n0))
      have cA:=zB (HX.out.zOU (zJ bA));have gA:=yw hb bA;have z3:=(bA.cell (p:=⟨b2,aA+kk*8+3,none⟩) (zD q3)).trans q3;have z1:=(bA.cell (p:=⟨b,off+k*6+1,none⟩) (zD n1)).trans n1;clear bA HX hb hF y0 y1 y2 y3 y4 y5 x0 x2 x4 x6 x8 iA q2 q3 n0 n1 nA oA pA;clear f1;obtain⟨⟨e0,-⟩,⟨e2,-⟩,⟨e4,-⟩,⟨e6,-⟩,⟨e8,-⟩,⟨rA,-⟩⟩:=cA.out;by_cases h1:n=zAL W (W.zOd k).name W.pn
      ·by_cases h2:y=(W.zOd k).zOf
       ·have Hl:=zB ((zCs (zOf:=(W.zOd k).zOf) Hw.out.steps fA.out).2 ⟨h1,h2⟩);have g1:((n:Int) == (zAL W (W.zOd k).name W.pn:Int))=true:=(by simp[h1]);have g2:((n:Int) != (zAL W (W.zOd k).name W.pn:Int))=false:=(by simp[h1]);have g3:decide ((n:Int)=(zAL W (W.zOd k).name W.pn:Int))=true:=(by simp[h1]);have g4:(y == (W.zOd k).zOf)=true:=(by simp[h2]);have g5:(y != (W.zOd k).zOf)=false:=(by simp[h2]);have g6:decide (y=(W.zOd k).zOf)=true:=(by simp[h2]);clear h1 h2;go_wp2;go_roundw
        case rel=>exact⟨k+1,by omega,by go_num,qE hlt eA.out Hl.out,cA.out,gA⟩
        case measure=>simp[intOf];omega
       ·have Hl:=zB (show ¬zB9 W (W.zOd k).name (W.zOd k).zOg (W.zOd k).zOf from fun h=>h2 ((zCs Hw.out.steps fA.out).1 h).2);have g1:((n:Int) == (zAL W (W.zOd k).name W.pn:Int))=true:=(by simp[h1]);have g2:((n:Int) != (zAL W (W.zOd k).name W.pn:Int))=false:=(by simp[h1]);have g3:decide ((n:Int)=(zAL W (W.zOd k).name W.pn:Int))=true:=(by simp[h1]);have g4:(y == (W.zOd k).zOf)=false:=(by simp[h2]);have g5:(y != (W.zOd k).zOf)=true:=(by simp[h2]);have g6:decide (y=(W.zOd k).zOf)=false:=(by simp[h2]);clear h1 h2;go_wp2;go_ret;exact⟨zK.no fun hA=>Hl.out (hA k hlt),gA⟩
      ·have Hl:=zB (show ¬zB9 W (W.zOd k).name (W.zOd k).zOg (W.zOd k).zOf from fun h=>h1 ((zCs Hw.out.steps fA.out).1 h).1);have h3:¬(n:Int)=(zAL W (W.zOd k).name W.pn:Int):=(by omega);have g1:((n:Int) == (zAL W (W.zOd k).name W.pn:Int))=false:=(by simp[h3]);have g2:((n:Int) != (zAL W (W.zOd k).name W.pn:Int))=true:=(by simp[h3]);have g3:decide ((n:Int)=(zAL W (W.zOd k).name W.pn:Int))=false:=(by simp[h3]);clear h1 h3;go_wp2;go_ret;exact⟨zK.no fun hA=>Hl.out (hA k hlt),gA⟩
def zB7(W:zH)(i:Nat):Prop:=zC4 (zc W i).dn (zc W i).ds (zc W i).db (zCG (zCO W (zc W i)) (yf W (zc W i)))
structure zBp (W:zH):Prop where
 right:zt W.zOa
 zOj:zAh W
 lines:∀i,i<W.sn->zB9 W (W.zOd i).name (W.zOd i).zOg (W.zOd i).zOf
 zOb:∀i,i<W.pn->qQ W.zOa (W.zOb i).rs (W.zOb i).rb
 zOd:∀i,i<W.sn->qQ W.zOa (W.zOd i).rs (W.zOd i).rb/\zB7 W (W.pn+i)
 zOl:∀i,i<W.pn->zB7 W i
 reach:zDr W
 born:∀i,i<qf W->zB6 W i
 zOk:zE9 W
theorem zKH{W:zH}(h:∀k,k<W.pn->qQ W.zOa (W.zOb k).rs (W.zOb k).rb)(x:Int):qQ W.zOa (zN W x).rs (zN W x).rb:=by
 by_cases hx:∃k,qo W x k
 ·obtain⟨k,hk⟩:=hx;rw[qX hk];exact h k hk.1
 ·have:zN W x=qu:=by
   unfold zN;rw[dif_neg hx]
  rw[this];exact Or.inl ⟨rfl,rfl⟩
theorem zHD{W:zH}(hR:zt W.zOa)(hN:zAh W)(h1:∀i,i<W.pn->qQ W.zOa (W.zOb i).rs (W.zOb i).rb)(h2:∀i,i<W.sn->qQ W.zOa (W.zOd i).rs (W.zOd i).rb):zAy W where
 right:=hR
 ids:=hN.prevOk.less
 tree:=fun i hi=>by
  by_cases hp:i<W.pn
  ·rw[qZ hp];exact h1 i hp
  ·have e:=yk W (i - W.pn);rw[show W.pn+(i - W.pn)=i by omega]at e;rw[e];unfold qf at hi;exact h2 _ (by omega)
 time:=fun i hi=>by
  by_cases hp:i<W.pn
  ·rw[qZ hp];have:1<=(W.zOb i).time:=(hN.2.2.2.2.2 i hp).1.2.2.1;show 0<=(W.zOb i).time;omega
  ·have e:=yk W (i - W.pn);rw[show W.pn+(i - W.pn)=i by omega]at e;rw[e];have:1<=W.time:=hN.1.1;show 0<=W.time;omega
theorem zK2{v0 v1 v2 v3 vd:Value}{lo hi:Nat}{W:zH}{w:World}(h:zr w lo hi v0 v1 v2 v3 W)(hR:zt W.zOa)(hO:∀k,k<W.pn->qQ W.zOa (W.zOb k).rs (W.zOb k).rb)(hP:zB8 W){k:Nat}(hk:k<W.pn)(hD:zp w lo hi vd (W.zOb k).dn (W.zOb k).ds (W.zOb k).db)(w':World)(hb:Below w.heap.size w w') :
  Calls Tryz.prog 103 #[qT v0 v1 v2 v3 W,.int .i64 (W.zOb k).zOg,.agg #[.int .i64 (W.zOb k).rs,.int .i64 (W.zOb k).rb],vd] w' fun e aA=>zK (zB7 W k) e/\Below w'.heap.size w' aA:=by
 unfold zB7;rw[qZ hk];exact zFl v0 v1 v2 v3 vd lo hi lo hi _ _ _ W _ _ _ _ _ w' (h.zOU hb) (hD.zOU hb) hR (hO k hk) (zKH hO _) hP rfl rfl
theorem zL6{v0 v1 v2 v3 vd:Value}{lo hi:Nat}{W:zH}{w:World}(h:zr w lo hi v0 v1 v2 v3 W)(hR:zt W.zOa)(hO:∀k,k<W.pn->qQ W.zOa (W.zOb k).rs (W.zOb k).rb)(hP:zB8 W){k:Nat}(hT:qQ W.zOa (W.zOd k).rs (W.zOd k).rb)(hD:zp w lo hi vd (W.zOd k).dn (W.zOd k).ds (W.zOd k).db)(w':World)(hb:Below w.heap.size w w') :
  Calls Tryz.prog 103 #[qT v0 v1 v2 v3 W,.int .i64 (W.zOd k).zOg,.agg #[.int .i64 (W.zOd k).rs,.int .i64 (W.zOd k).rb],vd] w' fun e aA=>zK (zB7 W (W.pn+k)) e/\Below w'.heap.size w' aA:=by
 unfold zB7;rw[yk];exact zFl v0 v1 v2 v3 vd lo hi lo hi _ _ _ W _ _ _ _ _ w' (h.zOU hb) (hD.zOU hb) hR hT (zKH hO _) hP rfl rfl
def zJo(n:Nat)(f:Nat->zd):Prop:=∀i,i<n->∀k,k<i->¬((f k).set=(f i).set/\(f k).name=(f i).name)
def zNj(f:Nat->zd):Nat->zd
 | 0=>qu
 | k+1=>f k
def zN7(W:zH)(i:Nat):Prop:=zx W (W.zOb i).set/\qV (W.zOb i).name/\(W.zOb i).zOg<(W.zOb i).id/\Mid (zNj W.zOb i).id (W.zOb i).id W.next/\Mid (zNj W.zOb i).time (W.zOb i).time W.time
def zNv(W:zH):Prop:=W.pn<=20/\(∀i,i<W.pn->zN7 W i)/\zJo W.pn W.zOb
def zKV(W:zH):Prop:=∀i,i<W.pn->∀j,j<i->(W.zOb j).id≠(W.zOb i).id
def zKX(W:zH)(i:Nat):Prop:=(zN W (zc W i).zOg).id=(zc W i).zOg
def zLp(l l':List (Int×Int))(w w':World)(v v':Value):Prop:=qH w' w.heap.size v l/\qH w' w.heap.size v' l'/\(∀q,v.ownBlock=some q->v'.ownBlock≠some q)/\Below w.heap.size w w'
theorem zJj{w1 w2:World}{base g cap:Nat}{v v':Value}{l l':List (Int×Int)}{x y:Int}(h':qH w1 base v' l')(ha:∀q,v.ownBlock=some q->v'.ownBlock≠some q)
  (aA:w2.ownsRow base 99 2 (.slice (some ⟨g,0,none⟩) (l.length+1) cap) (l.length+1) (pcl l ++ [.int .i64 x,.int .i64 y])) (hg:w1.grownBy w2 v.ownBlock) (bA:v.ownBlock=some g\/g=w1.heap.size) :
  qH w2 base (.slice (some ⟨g,0,none⟩) (l.length+1) cap) (l ++ [(x,y)])/\qH w2 base v' l'/\(∀q,(Value.slice (some ⟨g,0,none⟩) (l.length+1) cap).ownBlock=some q->v'.ownBlock≠some q):=by
 refine⟨?_,h'.zOW hg (fun q hq e=>ha q e hq),fun q hq e=>?_⟩
 ·unfold qH;rw[zCI,List.length_append];exact aA
 ·simp only[Value.ownBlock,Option.some.injEq]at hq;subst hq;rcases bA with h | h
  ·exact ha _ h e
  ·have:=(h'.lt e).2;omega
def zOQ(W:zH)(m:zGG)(S:zd):Prop:=m.rb<=m.time/\zC4 (zFb (zY W.zOa m.rs m.rb) S.time).length (zg (zFb (zY W.zOa m.rs m.rb) S.time)) (zj (zFb (zY W.zOa m.rs m.rb) S.time)) (zCG (zY W.zOa m.rs m.rb) (zY W.zOa S.rs S.rb))/\zC4 m.dn m.ds m.db (zCG (zY W.zOa S.rs S.rb) (zIL (zY W.zOa m.rs m.rb) (zY W.zOa S.rs S.rb)))
def zN4(W:zH)(i:Nat):Prop:=zOQ W (zc W i) (zN W (zc W i).zOg)
def zNw(W:zH):Prop:=(∀i,i<qf W->qQ W.zOa (zc W i).rs (zc W i).rb)/\∀i,i<qf W->zN4 W i
structure zDG (W:zH):Prop where
 time:zCP W.time 1 900000
 next:zCP W.next 1 900000
 zOd:zKY W.sn W.zOd
 zOb:zNv W
structure zEf (W:zH):Prop where
 zOj:zDG W
 right:zt W.zOa
 prevs:∀i,i<qf W->zKX W i
 lines:∀i,i<W.sn->zB9 W (W.zOd i).name (W.zOd i).zOg (W.zOd i).zOf
 trees:zNw W
 homes:zID W
theorem zDG.range{W:zH}(h:zDG W):∀i,i<W.pn->1<=(W.zOb i).id/\(W.zOb i).id<W.next/\1<=(W.zOb i).time/\(W.zOb i).time<W.time
 | 0,hi=>by
  have:=(h.zOb.2.1 0 hi).2.2.2;have h1:Mid 0 (W.zOb 0).id W.next:=this.1;have h2:Mid 0 (W.zOb 0).time W.time:=this.2;have a1:=h1.1;have a2:=h1.2;have a3:=h2.1;have a4:=h2.2;omega
 | i+1,hi=>by
  have ih:=h.range i (by omega);have:=(h.zOb.2.1 (i+1) hi).2.2.2;have h1:Mid (W.zOb i).id (W.zOb (i+1)).id W.next:=this.1;have h2:Mid (W.zOb i).time (W.zOb (i+1)).time W.time:=this.2;have a1:=h1.1;have a2:=h1.2;have a3:=h2.1;have a4:=h2.2;omega
theorem zDG.rise{W:zH}(h:zDG W):∀i,i<W.pn->∀j,j<i->(W.zOb j).id<(W.zOb i).id
 | 0,_,j,hj=>absurd hj (Nat.not_lt_zero _)
 | i+1,hi,j,hj=>by
  have h1:Mid (W.zOb i).id (W.zOb (i+1)).id W.next:=(h.zOb.2.1 (i+1) hi).2.2.2.1;have a1:=h1.1;by_cases e:j=i
  ·subst e;exact a1
  ·have:=h.rise i (by omega) j (by omega);omega
theorem zDG.dist{W:zH}(h:zDG W):zKV W:=fun i hi j hj e=>by have:=h.rise i hi j hj;omega
theorem zGq{W:zH}{i:Nat}(hp:zB8 W):zKX W i↔((zc W i).zOg=0\/qL W (zc W i).zOg):=by
 unfold zKX;constructor
 ·intro h;by_cases hx:∃k,qo W (zc W i).zOg k
  ·obtain⟨k,hk⟩:=hx;exact Or.inr ⟨k,hk.1,hk.2.1⟩
  ·have e:zN W (zc W i).zOg=qu:=(by unfold zN;rw[dif_neg hx]);rw[e]at h;exact Or.inl h.symm
 ·rintro(h | h)
  ·rw[h,zEN (fun k hk e=>by have:=hp k hk;omega)];rfl
  ·obtain⟨k,hk⟩:=h.no;rw[qX hk];exact hk.2.1
theorem zDG.prevOk{W:zH}(h:zDG W)(hp:∀i,i<qf W->zKX W i):zCe W where
 ids:=fun k hk=>by have h1:=h.range k hk;have h2:=h.next.2;omega
 zOg:=fun k hk=>by
  have:=(zGq (fun k hk=>(h.range k hk).1)).1 (hp k (by unfold qf;omega));rw[qZ hk]at this;exact this
 less:=fun k hk=>(h.zOb.2.1 k hk).2.2.1
 zOd:=fun k hk=>by
  have:=(zGq (fun k hk=>(h.range k hk).1)).1 (hp (W.pn+k) (by unfold qf;omega));rw[yk]at this;exact this
 zOj:=fun k hk=>zCl (h.zOd.2 k hk).1
theorem zJc{W:zH}(h:zCe W){name:ByteArray}{aA:Int}(hs:aA=0\/qL W aA):∀{n:Nat} {e:Int},Steps W name aA n e->(e=0\/qL W e)
 | 0,_,.zero=>hs
 | n+1,_,.next (k:=k) _ hk _=>h.zOg k hk.1
theorem zGr{f:Nat->zu}{i:Nat}(hn:qV (f i).name):zAM (zJA f i) (f i).name↔(0<i->zAM (f (i - 1)).name (f i).name):=by
 cases i with
 | zero=>
  refine⟨fun _ h=>absurd h (by omega),fun _=>?_⟩;have hne:=zCl hn;unfold zAM zJA;have h0:(⟨#[]⟩:ByteArray).toList = []:=(by rw[Go.ByteArray.toList_eq]);rw[h0];cases hl:(f 0).name.toList with
  | nil=>rw[hl]at hne;exact absurd hne (by decide)
  | cons a l=>simp[Op.bytesLess]
 | succ i=>exact⟨fun h _=>h,fun h=>h (by omega)⟩
theorem qM(W:zH):zEf W↔zBp W:=by
 constructor
 ·intro h;have hP:=h.zOj.prevOk h.prevs;have hN:zAh W:=by
   refine⟨h.zOj.time,h.zOj.next,h.zOj.zOd.1,h.zOj.zOb.1,fun i hi=>?_,fun i hi=>?_⟩
   ·have hs:=h.zOj.zOd.2 i hi;refine⟨hs.1,(zGr hs.1).1 hs.2,fun hz=>(hP.zOd i hi).resolve_left hz,fun hz=>?_⟩;obtain⟨n,e,aA,_,_,rfl⟩:=h.lines i hi;exact(zJc hP (hP.zOd i hi) aA).resolve_left hz
   ·have hs:=h.zOj.zOb.2.1 i hi;have hr:=h.zOj.range i hi;refine⟨⟨hr.1,hr.2.1,hr.2.2.1,hr.2.2.2,hs.2.1,hs.1⟩,⟨fun h0=>?_,fun hz=>⟨hs.2.2.1,(hP.zOg i hi).resolve_left hz⟩⟩,fun k hk=>h.zOj.zOb.2.2 i hi k hk⟩;cases i with
    | zero=>omega
    | succ i=>exact⟨hs.2.2.2.1.1,hs.2.2.2.2.1⟩
  have hT:zAy W:=zHD h.right hN (fun i hi=>by have:=h.trees.1 i (by unfold qf;omega);rw[qZ hi]at this;exact this) (fun i hi=>by have:=h.trees.1 (W.pn+i) (by unfold qf;omega);rw[yk]at this;exact this);have hM:∀i,i<qf W->zHb W (zc W i):=fun i hi=>(zGh hT hi).1 (h.trees.2 i hi)
  have hh:=(zHh hT (fun j hj=>by have:=hP.pos j hj;omega) hM).1 h.homes;exact⟨h.right,hN,h.lines,fun i hi=>hT.snap hi,fun i hi=>⟨hT.set hi,(hM (W.pn+i) (by unfold qf;omega)).1⟩,fun i hi=>(hM i (by unfold qf;omega)).1,hh.1,fun i hi=>(hM i hi).2,hh.2⟩
 ·intro h;have hP:=h.zOj.prevOk;have hT:zAy W:=zHD h.right h.zOj h.zOb (fun i hi=>(h.zOd i hi).1);have hM:∀i,i<qf W->zHb W (zc W i):=fun i hi=>by
   refine⟨?_,h.born i hi⟩;by_cases hp:i<W.pn
   ·exact h.zOl i hp
   ·have:=(h.zOd (i - W.pn) (by unfold qf at hi;omega)).2;rw[show W.pn+(i - W.pn)=i by omega]at this;exact this
  have hh:=(zHh hT (fun j hj=>by have:=hP.pos j hj;omega) hM).2 ⟨h.reach,h.zOk⟩;refine⟨⟨h.zOj.1,h.zOj.2.1,⟨h.zOj.2.2.1,fun i hi=>?_⟩,⟨h.zOj.2.2.2.1,fun i hi=>?_,fun i hi k hk=>(h.zOj.2.2.2.2.2 i hi).2.2 k hk⟩⟩,h.right,fun i hi=>?_,h.lines,⟨hT.tree,fun i hi=>(zGh hT hi).2 (hM i hi)⟩,hh⟩
  ·have hs:=h.zOj.2.2.2.2.1 i hi;exact⟨hs.1,(zGr hs.1).2 hs.2.1⟩
  ·have hs:=h.zOj.2.2.2.2.2 i hi;refine⟨hs.1.2.2.2.2.2,hs.1.2.2.2.2.1,hP.less i hi,?_,?_⟩
   ·cases i with
    | zero=>exact⟨by have:=hs.1.1;show(0:Int)<_;omega,hs.1.2.1⟩
    | succ i=>exact⟨(hs.2.1.1 (by omega)).1,hs.1.2.1⟩
   ·cases i with
    | zero=>exact⟨by have:=hs.1.2.2.1;show(0:Int)<_;omega,hs.1.2.2.2.1⟩
    | succ i=>exact⟨(hs.2.1.1 (by omega)).2,hs.1.2.2.2.1⟩
  ·refine(zGq hP.pos).2 ?_;by_cases hp:i<W.pn
   ·rw[qZ hp];exact hP.zOg i hp
   ·have e:=yk W (i - W.pn);rw[show W.pn+(i - W.pn)=i by omega]at e;rw[e];exact hP.zOd _ (by unfold qf at hi;omega)
open Go.ChangeMaps Go.MapKept
open Go.WideElems (Fit rd rg pl rd_val elemAt findIdx_arr findIdx_born modify_last set_self)
open Go.WideMaps (KeyLaw)
theorem zBb{n:Int}(h0:-9223372036854775808<=n)(h1:n<9223372036854775808):IntKind.i64.wrap n=n:=by
 unfold IntKind.wrap;simp only[IntKind.signed,IntKind.bits,Bool.true_and];split
 ·rename_i hc
  have aA:=of_decide_eq_true hc;omega
 ·rename_i hc
  have aA:=of_decide_eq_false (Bool.eq_false_iff.2 hc);omega
def zCg(W:zH)(long bad:Prop)(m:Nat)(Q:Nat->Prop)(ei:Nat->Nat)(r:Option Nat):Prop:=
 (long/\r=some 1)\/(¬long/\(¬zEf W\/bad)/\r=some 0)\/(¬long/\zEf W/\¬bad/\∃i,i<m/\¬Q i/\(∀j,j<i->Q j)/\r=some (ei i))\/(¬long/\zEf W/\¬bad/\(∀j,j<m->Q j)/\r=none)
theorem zLc{W:zH}{x:ByteArray}(h:zx W x):∃k,zAN W x k:=by
 obtain⟨k,hk,hn⟩:=h
 induction k using Nat.strongRecOn with
 | _ k ih=>
  by_cases e:∃j,j<k/\(W.zOd j).name=x
  ·obtain⟨j,hj,hx⟩:=e;exact ih j hj (by omega) hx
  ·exact⟨k,hk,hn,fun j hj hx=>e ⟨j,hj,hx⟩⟩
theorem zCg.impl{W:zH}{a b:Prop}{m:Nat}{Q:Nat->Prop}{ei:Nat->Nat}(h:zCg W a b m Q ei none):zEf W:=by
 rcases h with⟨_,e⟩ | ⟨_,_,e⟩ | ⟨_,_,_,k,hk,_,_,e⟩ | ⟨_,h2,_,h4,_⟩
 ·cases e
 ·cases e
 ·cases e
 ·exact h2
theorem zDH{a:ByteArray}:(∃i,i<1/\8000<((fun (_:Nat)=>a) i).size)↔8000<a.size:=⟨fun ⟨_,_,h⟩=>h,fun h=>⟨0,by omega,h⟩⟩
theorem zIH{a:ByteArray}:(∃i,i<1/\¬qV ((fun i=>match i with  | _=>a) i))↔¬qV a:=by
 constructor
 ·rintro⟨i,hi,h⟩;obtain rfl:i=0:=(by omega);exact h
 ·exact fun h=>⟨0,by omega,h⟩
structure zA9 where
 zOc:zH
 zOe:zH
abbrev zIq(v0 v1 v2 v3 u0 u1 u2 u3:Value)(S:zA9):Value:=.agg #[v0,v1,.int .i64 S.zOc.time,.int .i64 S.zOc.next,v2,v3,u0,u1,.int .i64 S.zOe.time,.int .i64 S.zOe.next,u2,u3]
structure zBt (w:World) (lo hi:Nat) (v0 v1 v2 v3 u0 u1 u2 u3:Value) (S:zA9):Prop where
 zOc:zr w lo hi v0 v1 v2 v3 S.zOc
 zOe:zr w lo hi u0 u1 u2 u3 S.zOe
theorem zBt.zOU{w w':World}{lo hi:Nat}{v0 v1 v2 v3 u0 u1 u2 u3:Value}{S:zA9}(h:zBt w lo hi v0 v1 v2 v3 u0 u1 u2 u3 S)(t:Below w.heap.size w w'):zBt w' lo hi v0 v1 v2 v3 u0 u1 u2 u3 S:=⟨h.zOc.zOU t,h.zOe.zOU t⟩
theorem zBO.zOZ{w:World}{lo hi bA aA:Nat}{v:Value}{n:Nat}{f:Nat->zu}(h:zBO w lo hi v n f)(h1:bA<=lo)(h2:hi<=aA)(hp:∀{v n f g},zp w lo hi v n f g->zp w bA aA v n f g):zBO w bA aA v n f:=by
 obtain⟨m,a,c,hv,hc,hx⟩:=h;refine⟨m,a,c,hv,hc,fun h0=>?_⟩;obtain⟨b,off,ha,l1,l2,h3⟩:=hx h0;refine⟨b,off,ha,by omega,by omega,fun i hi=>?_⟩;obtain⟨vd,hs⟩:=h3 i hi;exact⟨vd,hs.c0,hs.c1,hs.c2,hs.c3,hs.c4,hs.c5,hp hs.zOl,hs.zOm⟩
theorem zAg.zOZ{w:World}{lo hi bA aA:Nat}{v:Value}{n:Nat}{f:Nat->zd}(h:zAg w lo hi v n f)(h1:bA<=lo)(h2:hi<=aA)(hp:∀{v n f g},zp w lo hi v n f g->zp w bA aA v n f g):zAg w bA aA v n f:=by
 obtain⟨m,a,c,hv,hc,hx⟩:=h;refine⟨m,a,c,hv,hc,fun h0=>?_⟩;obtain⟨b,off,ha,l1,l2,h3⟩:=hx h0;refine⟨b,off,ha,by omega,by omega,fun i hi=>?_⟩;obtain⟨vd,hs⟩:=h3 i hi;exact⟨vd,hs.c0,hs.c1,hs.c2,hs.c3,hs.c4,hs.c5,hs.c6,hs.c7,hp hs.zOl,hs.zOm⟩
theorem zBc.zOZ{w:World}{lo hi bA aA:Nat}{v:Value}{n:Nat}{f:Nat->zO}(h:zBc w lo hi v n f)(h1:bA<=lo)(h2:hi<=aA):zBc w bA aA v n f:=by
 obtain⟨m,a,c,hv,hc,hx⟩:=h;refine⟨m,a,c,hv,hc,fun h0=>?_⟩;obtain⟨b,off,ha,l1,l2,h3⟩:=hx h0;refine⟨b,off,ha,by omega,by omega,fun i hi=>?_⟩;obtain⟨x0,x1,x2,c0,c1,c2,e0,hp,e2,hs⟩:=h3 i hi;exact⟨x0,x1,x2,c0,c1,c2,e0,hp.zOZ h1 h2,e2,hs⟩
theorem zr.zOZ{w:World}{lo hi bA aA:Nat}{v0 v1 v2 v3:Value}{W:zH}(h:zr w lo hi v0 v1 v2 v3 W)(h1:bA<=lo)(h2:hi<=aA):zr w bA aA v0 v1 v2 v3 W:=
 ⟨⟨h.zOa.1.zOZ h1 h2,h.zOa.2.zOZ h1 h2⟩,h.zOd.zOZ h1 h2 (fun hp=>hp.zOZ h1 h2),h.zOb.zOZ h1 h2 (fun hp=>hp.zOZ h1 h2)⟩
def zBi(w:World)(lo hi:Nat)(v0 v1 v2 v3 u0 u1 u2 u3:Value)(S:zA9):Prop:=∃l1 h1 l2 h2,zf w l1 h1 v0 v1 v2 v3 S.zOc/\zf w l2 h2 u0 u1 u2 u3 S.zOe/\lo<=l1/\h1<=hi/\lo<=l2/\h2<=hi/\(h1<=l2\/h2<=l1)
theorem zBi.at{w:World}{lo hi:Nat}{v0 v1 v2 v3 u0 u1 u2 u3:Value}{S:zA9}(h:zBi w lo hi v0 v1 v2 v3 u0 u1 u2 u3 S):zBt w lo hi v0 v1 v2 v3 u0 u1 u2 u3 S:=by
 obtain⟨l1,h1,l2,h2,a,b,c1,c2,c3,c4,_⟩:=h;exact⟨a.at.zOZ c1 c2,b.at.zOZ c3 c4⟩
end Go.Proofs.YtgabgheflgjgiaaGreatDoor
