/- What impl.wayTo answers. -/
import Derived.Test.YtmgeglgboadfiaaGreatDoorV15
set_option linter.unusedVariables false
set_option maxRecDepth 20000
set_option maxHeartbeats 4000000
namespace Go.Proofs.YtmgeglgboadfiaaGreatDoor
open Go.RowKit
theorem zDa{v:Value}{xs xb:Int}{n z B X L:Nat}(a:Act)(h:a = {tmps:=#[v,.agg #[.int .i64 xs,.int .i64 xb],.int .i64 (n:Int),a.tmps.getD 3 undef,.pointer (some ⟨z,0,none⟩),a.tmps.getD 5 undef,.pointer (some ⟨z+1,0,none⟩),.pointer (some ⟨B,0,none⟩),.pointer (some ⟨X,0,none⟩),.int .i64 (L:Int),a.tmps.getD 10 undef,a.tmps.getD 11 undef,a.tmps.getD 12 undef,a.tmps.getD 13 undef,a.tmps.getD 14 undef,a.tmps.getD 15 undef,a.tmps.getD 16 undef,a.tmps.getD 17 undef,a.tmps.getD 18 undef,a.tmps.getD 19 undef,a.tmps.getD 20 undef,a.tmps.getD 21 undef,a.tmps.getD 22 undef,a.tmps.getD 23 undef,a.tmps.getD 24 undef,a.tmps.getD 25 undef,a.tmps.getD 26 undef,a.tmps.getD 27 undef,a.tmps.getD 28 undef,a.tmps.getD 29 undef,a.tmps.getD 30 undef,a.tmps.getD 31 undef,a.tmps.getD 32 undef,a.tmps.getD 33 undef,a.tmps.getD 34 undef,a.tmps.getD 35 undef,a.tmps.getD 36 undef,a.tmps.getD 37 undef,a.tmps.getD 38 undef,a.tmps.getD 39 undef,a.tmps.getD 40 undef,a.tmps.getD 41 undef,a.tmps.getD 42 undef,a.tmps.getD 43 undef,a.tmps.getD 44 undef,a.tmps.getD 45 undef,a.tmps.getD 46 undef,a.tmps.getD 47 undef,a.tmps.getD 48 undef,a.tmps.getD 49 undef,a.tmps.getD 50 undef,a.tmps.getD 51 undef,a.tmps.getD 52 undef,a.tmps.getD 53 undef,a.tmps.getD 54 undef,a.tmps.getD 55 undef,a.tmps.getD 56 undef,a.tmps.getD 57 undef,a.tmps.getD 58 undef,a.tmps.getD 59 undef,a.tmps.getD 60 undef,a.tmps.getD 61 undef,a.tmps.getD 62 undef,a.tmps.getD 63 undef,a.tmps.getD 64 undef,a.tmps.getD 65 undef,a.tmps.getD 66 undef,a.tmps.getD 67 undef],defers:=[]}):∃j:Nat->Value,a = {tmps:=#[v,.agg #[.int .i64 xs,.int .i64 xb],.int .i64 (n:Int),j 3,.pointer (some ⟨z,0,none⟩),j 5,.pointer (some ⟨z+1,0,none⟩),.pointer (some ⟨B,0,none⟩),.pointer (some ⟨X,0,none⟩),.int .i64 (L:Int),j 10,j 11,j 12,j 13,j 14,j 15,j 16,j 17,j 18,j 19,j 20,j 21,j 22,j 23,j 24,j 25,j 26,j 27,j 28,j 29,j 30,j 31,j 32,j 33,j 34,j 35,j 36,j 37,j 38,j 39,j 40,j 41,j 42,j 43,j 44,j 45,j 46,j 47,j 48,j 49,j 50,j 51,j 52,j 53,j 54,j 55,j 56,j 57,j 58,j 59,j 60,j 61,j 62,j 63,j 64,j 65,j 66,j 67],defers:=[]}:=⟨fun i=>a.tmps.getD i undef,h⟩
def zRW(p:zI)(v:Value)(xs xb:Int)(n:Nat)(w0:World)(z:Nat)(k l:Nat)(a:Act)(w:World):Prop:=
  ∃B X L:Nat,(∃j:Nat->Value,a = {tmps:=#[v,.agg #[.int .i64 xs,.int .i64 xb],.int .i64 (n:Int),j 3,.pointer (some ⟨z,0,none⟩),j 5,.pointer (some ⟨z+1,0,none⟩),.pointer (some ⟨B,0,none⟩),.pointer (some ⟨X,0,none⟩),.int .i64 (L:Int),j 10,j 11,j 12,j 13,j 14,j 15,j 16,j 17,j 18,j 19,j 20,j 21,j 22,j 23,j 24,j 25,j 26,j 27,j 28,j 29,j 30,j 31,j 32,j 33,j 34,j 35,j 36,j 37,j 38,j 39,j 40,j 41,j 42,j 43,j 44,j 45,j 46,j 47,j 48,j 49,j 50,j 51,j 52,j 53,j 54,j 55,j 56,j 57,j 58,j 59,j 60,j 61,j 62,j 63,j 64,j 65,j 66,j 67],defers:=[]})/\L<3/\z+1<B/\B<X/\X<w.heap.size/\Below z w0 w/\w.heap[z+1]?=some (.cells zPR 159 (0,0))/\
    ((l=0/\7<=k+L/\yL w B (yr p xs xb n L L (.slice none 0 0))/\zc w X (.int .i64 (qy p xs xb n L)) (.int .i64 (yk p xs xb n L)))\/
     (l=1/\L<k/\∃o,yL w B (yr p xs xb n 2 3 o)/\zw w (X+1) o (yg p xs xb n (2 - L))))
theorem zEB(B:Nat):∀(vs:List Value) (o:Nat) (w:World),zF (fun k=>k=B) w (w.setCells B o vs)
  | [],_,w=>zF.refl _ w
  | v :: vs,o,w=>((zF.refl (fun k=>k=B) w).setCell (p:=⟨B,o,none⟩) rfl v).trans (zEB B vs (o+1) _)
theorem zHm(p:zI)(xs xb:Int)(n K M:Nat)(o:Value){L:Nat}(hL:L<2):yr p xs xb n K M o L = .int .i64 (plc n L:Nat):=by
  unfold yr;rw[if_pos hL]
theorem zLb(p:zI)(xs xb:Int)(n M:Nat)(o:Value){L j:Nat}(hL:L<2)(hj:j<16):yr p xs xb n (L+1) M o (2+L*16+j) = .int .i64 (zCG p xs xb n L j):=by
  unfold yr;rw[if_neg (by omega),if_pos (by omega),show(2+L*16+j - 2) / 16=L by omega,show(2+L*16+j - 2) % 16=j by omega,if_pos (by omega)]
theorem zLi(p:zI)(xs xb:Int)(n K:Nat)(o:Value){L:Nat}(hL:L<3):yr p xs xb n K 3 o (34+L*2) = .int .i64 (qy p xs xb n L)/\yr p xs xb n K 3 o (34+L*2+1) = .int .i64 (yk p xs xb n L):=by
  refine⟨?_,?_⟩
  · unfold yr
    rw[if_neg (by omega),if_neg (by omega),if_pos (by omega),show(34+L*2 - 34) / 2=L by omega,show(34+L*2 - 34) % 2=0 by omega,if_pos (by omega),if_pos rfl]
  · unfold yr
    rw[if_neg (by omega),if_neg (by omega),if_pos (by omega),show(34+L*2+1 - 34) / 2=L by omega,show(34+L*2+1 - 34) % 2=1 by omega,if_pos (by omega),if_neg (by omega)]
theorem zPO(p:zI)(xs xb:Int)(n K M:Nat)(o:Value):yr p xs xb n K M o 40=o:=rfl
theorem zPM{p:zI}{xs xb:Int}{n L:Nat}(hN:L<2->Nil (qy p xs xb n L) (yk p xs xb n L))(hL:L<3):yg p xs xb n (2 - L) = []:=by
  unfold yg;rcases L with _ | _ | L
  · have h0:=hN (by omega)
    have h1:=zEy h0 (by omega);have h2:=zEy h1 (by omega);show([] ++ one (qy p xs xb n 2) (yk p xs xb n 2)) ++ one (qy p xs xb n 1) (yk p xs xb n 1) = [];unfold one;rw[if_pos h2,if_pos h1];rfl
  · have h0:=hN (by omega)
    have h1:=zEy h0 (by omega);show [] ++ one (qy p xs xb n 2) (yk p xs xb n 2) = [];unfold one;rw[if_pos h1];rfl
  · obtain rfl:L=0:=by omega
    rfl
theorem zLW(p:zI)(xs xb:Int)(n:Nat){L:Nat}(hL:L<3):yg p xs xb n (2 - L+1)=yg p xs xb n (2 - L) ++ one (qy p xs xb n L) (yk p xs xb n L):=by
  show yg p xs xb n (2 - L) ++ one (qy p xs xb n (2 - (2 - L))) (yk p xs xb n (2 - (2 - L)))=_;rw[show 2 - (2 - L)=L by omega]
theorem zMe(p:zI)(xs xb:Int)(n k:Nat):(yg p xs xb n k).length<=k:=zBB _ _ k
theorem zLS(p:zI)(xs xb:Int)(n K M:Nat){o:Value}(ho:o.oneCell'=true):(zBR (yr p xs xb n K M o)).all (·.oneCell')=true:=by
  unfold zBR;rw[Array.all_eq_true_iff_forall_mem];intro v hv;simp at hv;obtain⟨i,_,rfl⟩:=hv;unfold yr;split
  · rfl
  split
  · rfl
  split
  · rfl
  · exact ho
theorem zw.one{w:World}{base:Nat}{v:Value}{l:List (Int×Int)}(h:zw w base v l):v.oneCell'=true:=by
  obtain⟨a,c,rfl,_⟩:=zY h;rfl
theorem zw.setRow{w:World}{base g:Nat}{v:Value}{l:List (Int×Int)}(h:zw w base v l)(hb:g<base)(cs:Array Value):zw (w.setRow g cs) base v l:=by
  have t:=zF.setRow w g cs;exact h.zRf (row:=some g) ⟨t.os,t.tape,t.output,t.size,fun k hk aA=>t.block k hk (fun e=>aA (by rw[e]))⟩ (fun q hq=>by
    have:=(h.lt hq).1;simp only[ne_eq,Option.some.injEq];omega)
theorem zLx(f:Nat->Value):(Tryz.prog.info? 159).map (·.size)=some ((List.range 41).map f).length:=by
  rw[zKy];simp
theorem zJK(v:Value)(lo hi:Nat)(p:zI)(xs xb:Int)(n:Nat)(w:World)(h1:qA w lo hi v p.n p.s)(hT:qp p xs xb)(hn:n<64) :
  Calls Tryz.prog 102 #[v,.agg #[.int .i64 xs,.int .i64 xb],.int .i64 (n:Int)] w fun e w'=>∃o,e = .returned (.agg (zBR (yr p xs xb n 2 3 o)))/\zw w' w.heap.size o (yg p xs xb n 3)/\Below w.heap.size w w':=by
 have Hp:=zE h1;have HT:=zE hT;obtain⟨_,a,c,rfl,_⟩:=id h1;clear h1 hT;have sD:(n:Int)<64:=by omega
 have rD:0<=(n:Int) % 8:=by omega
 have vD:(n:Int) % 8<8:=by omega
 have kC:=zC w (.cells #[.int .i64 xs,.int .i64 xb] 61);have aC:=zC (w.alloc (.cells #[.int .i64 xs,.int .i64 xb] 61)) (.cells #[.int .i64 0,.int .i64 0,.int .i64 0,.int .i64 0,.int .i64 0,.int .i64 0,.int .i64 0,.int .i64 0,.int .i64 0,.int .i64 0,.int .i64 0,.int .i64 0,.int .i64 0,.int .i64 0,.int .i64 0,.int .i64 0,.int .i64 0,.int .i64 0,.int .i64 0,.int .i64 0,.int .i64 0,.int .i64 0,.int .i64 0,.int .i64 0,.int .i64 0,.int .i64 0,.int .i64 0,.int .i64 0,.int .i64 0,.int .i64 0,.int .i64 0,.int .i64 0,.int .i64 0,.int .i64 0,.int .i64 0,.int .i64 0,.int .i64 0,.int .i64 0,.int .i64 0,.int .i64 0,.slice none 0 0] 159);have eB:=zE ((zc.zRZ w (.int .i64 xs) (.int .i64 xb) 61).zRX aC);have nB:Hid (((w.alloc (.cells #[.int .i64 xs,.int .i64 xb] 61)).alloc (.cells #[.int .i64 0,.int .i64 0,.int .i64 0,.int .i64 0,.int .i64 0,.int .i64 0,.int .i64 0,.int .i64 0,.int .i64 0,.int .i64 0,.int .i64 0,.int .i64 0,.int .i64 0,.int .i64 0,.int .i64 0,.int .i64 0,.int .i64 0,.int .i64 0,.int .i64 0,.int .i64 0,.int .i64 0,.int .i64 0,.int .i64 0,.int .i64 0,.int .i64 0,.int .i64 0,.int .i64 0,.int .i64 0,.int .i64 0,.int .i64 0,.int .i64 0,.int .i64 0,.int .i64 0,.int .i64 0,.int .i64 0,.int .i64 0,.int .i64 0,.int .i64 0,.int .i64 0,.int .i64 0,.slice none 0 0] 159)).heap[w.heap.size+1]?=some (.cells zPR 159 (0,0))):=by
  have:=heap_alloc_new (w.alloc (.cells #[.int .i64 xs,.int .i64 xb] 61)) (.cells #[.int .i64 0,.int .i64 0,.int .i64 0,.int .i64 0,.int .i64 0,.int .i64 0,.int .i64 0,.int .i64 0,.int .i64 0,.int .i64 0,.int .i64 0,.int .i64 0,.int .i64 0,.int .i64 0,.int .i64 0,.int .i64 0,.int .i64 0,.int .i64 0,.int .i64 0,.int .i64 0,.int .i64 0,.int .i64 0,.int .i64 0,.int .i64 0,.int .i64 0,.int .i64 0,.int .i64 0,.int .i64 0,.int .i64 0,.int .i64 0,.int .i64 0,.int .i64 0,.int .i64 0,.int .i64 0,.int .i64 0,.int .i64 0,.int .i64 0,.int .i64 0,.int .i64 0,.int .i64 0,.slice none 0 0] 159);rw[World.size_alloc]at this;exact this
 have fB:=zA kC aC;have lA:((w.alloc (.cells #[.int .i64 xs,.int .i64 xb] 61)).alloc (.cells #[.int .i64 0,.int .i64 0,.int .i64 0,.int .i64 0,.int .i64 0,.int .i64 0,.int .i64 0,.int .i64 0,.int .i64 0,.int .i64 0,.int .i64 0,.int .i64 0,.int .i64 0,.int .i64 0,.int .i64 0,.int .i64 0,.int .i64 0,.int .i64 0,.int .i64 0,.int .i64 0,.int .i64 0,.int .i64 0,.int .i64 0,.int .i64 0,.int .i64 0,.int .i64 0,.int .i64 0,.int .i64 0,.int .i64 0,.int .i64 0,.int .i64 0,.int .i64 0,.int .i64 0,.int .i64 0,.int .i64 0,.int .i64 0,.int .i64 0,.int .i64 0,.int .i64 0,.int .i64 0,.slice none 0 0] 159)).heap.size=w.heap.size+2:=by rw[World.size_alloc,World.size_alloc]
 clear kC aC;go_enter Tryz.func102,Tryz.ntmps102;go_wp2;refine zKG (zRW p (.slice a p.n c) xs xb n w w.heap.size) 6 ?_ ?_ ?_
 ·rintro l a w ⟨B,X,L,_,hL,_,_,_,_,_,h | h⟩
  ·have:=h.2.1;omega
  ·have:=h.2.1;omega
 ·clear eB nB fB lA;rintro k l a' w1 ⟨B,X,L,⟨j,rfl⟩,hL,hB,hX,mA,hb,hO,⟨rfl,hk,hW,hx⟩ | ⟨rfl,hk,o,hW,hr⟩⟩
  ·refine⟨_,rfl,?_⟩;have HW:=zE hW;have HX:=zE hx;have HO:=zE hO;have Hb:=zE hb;have Hk:=zE hk;have lD:(L:Int)<3:=(by omega);have fD:B≠X:=(by omega);obtain⟨⟨x0,x1⟩,⟨x2,x3⟩⟩:=hx;obtain⟨y0,y1⟩:=HW.out (34+L*2) (by omega);obtain⟨y2,y3⟩:=HW.out (34+L*2+1) (by omega);clear hW hO hb hk;go_upto_region 4 with fail;have gB:zF (fun k=>k=B) w1 ((w1.setCell ⟨B,34+L*2,none⟩ (.int .i64 (qy p xs xb n L))).setCell ⟨B,34+L*2+1,none⟩ (.int .i64 (yk p xs xb n L))):=((zF.refl (fun k=>k=B) w1).setCell (p:=⟨B,34+L*2,none⟩) rfl _).setCell (p:=⟨B,34+L*2+1,none⟩) rfl _;have vA:=zE (zQR hL HW.out);have dB:=zE (HX.out.zRf gB (by omega));have pA:=zE ((gB.block _ (by omega) (by omega)).trans HO.out);have jA:=zE ((Hb.out.setCell (p:=⟨B,34+L*2,none⟩) (by show _<=B;omega) (.int .i64 (qy p xs xb n L))).setCell (p:=⟨B,34+L*2+1,none⟩) (by show _<=B;omega) (.int .i64 (yk p xs xb n L)));have cA:=Nat.lt_of_lt_of_le mA gB.size;clear gB x0 x1 x2 x3 y0 y1 y2 y3;generalize (w1.setCell ⟨B,34+L*2,none⟩ (.int .i64 (qy p xs xb n L))).setCell ⟨B,34+L*2+1,none⟩ (.int .i64 (yk p xs xb n L))=w2 at vA dB pA jA cA ⊢;clear HW HX HO Hb mA;obtain⟨⟨x0,x1⟩,⟨x2,x3⟩⟩:=dB.out;by_cases hN:Nil (qy p xs xb n L) (yk p xs xb n L)
   ·have HN:=zE hN;rw[hN.1]at x0;rw[hN.2]at x2;clear hN;go_wp2;go_step3;have hk:=Hk.out;exact⟨B,X,L,zDa _ rfl,hL,hB,hX,cA,jA.out,pA.out,Or.inr ⟨rfl,by omega,.slice none 0 0,zNa hL vA.out (fun _=>HN.out),by rw[zPM (fun _=>HN.out) hL];exact zw.nil _ _⟩⟩
   ·have HN:=zE hN;by_cases gD:L=2
    ·subst gD;rcases zAm hN with e0 | ⟨e0,e1⟩
     all_goals
      clear hN;go_wp2;go_step3;have hk:=Hk.out;exact⟨B,X,2,zDa _ rfl,hL,hB,hX,cA,jA.out,pA.out,Or.inr ⟨rfl,by omega,.slice none 0 0,zNa hL vA.out (fun h=>absurd h (by omega)),zw.nil _ _⟩⟩
    ·have iA:L<2:=(by omega);have tD:((L:Int) == 2)=false:=(by simp;omega);have hK:=(zQr HT.out hn iA).resolve_left hN;obtain⟨m,hm⟩:=Int.eq_ofNat_of_zero_le hK.1.2.1;have bD:m<p.n:=(by have:=hK.1.2.2.1;omega);have mD:(m:Int)<(p.n:Int):=(by omega);have jD:Hid ((p.s m).kn=8):=by
      have:=hK.2;rw[hm]at this;exact this
     obtain⟨b,off,ka,kc,rfl,oC⟩:=(Hp.out.zRX jA.out).cells bD;have HC:=zE oC;obtain⟨q0,q1,q2,_⟩:=oC;have Hm:=zE hm;have nC:=zAm hN;rw[hm]at x0 nC;clear hm hK hN;have vB:Hid ((Tryz.prog.info? 155).map (·.size)=some (qF (p.s m)).size):=by
      show _=_;rw[qF,qB];exact zB4
     rcases nC with e0 | ⟨e0,e1⟩
     all_goals
      go_wp2_with fail;refine(zDf _ _ _ lo hi (p.s m) _ HC.out.slot (Or.inr jD.out)).mono ?_;rintro e w3 ⟨rfl,nA⟩;have gC:=zE (vA.out.zRX nA);have iC:=zE (dB.out.zRX nA);have mC:=zE ((nA.block _ (by omega)).trans pA.out);have fC:=zE (jA.out.trans (nA.mono jA.out.size));have aB:=Nat.lt_of_lt_of_le cA nA.size;have rC:Hid (w3.there B (2+L*16) (qF (p.s m)).size):=by
       have:=gC.out.there (o:=2+L*16) (n:=16) (by omega);rw[<-qB (zj (p.s m))]at this;exact this
      clear nA x0 x1 x2 x3 q0 q1 q2 HC vA dB pA jA cA;go_upto_region 6 with(refine wpList_store_mid rfl 155 (.tmp 36) (.tmp 34) rfl B (2+L*16) (qF (p.s m)) rfl rfl rC.out vB.out (zAt _) ?_);have rA:=zEB B (qF (p.s m)).toList (2+L*16) w3;have bB:Hid (yL (w3.setCells B (2+L*16) (qF (p.s m)).toList) B (yr p xs xb n (L+1) (L+1) (.slice none 0 0))):=by
       have:=zPm iA gC.out HN.out;rw[Hm.out]at this;exact this
      have pB:=zE (iC.out.zRf rA (by omega));have tC:=zE ((rA.block _ (by omega) (by omega)).trans mC.out);have sB:=zE (fC.out.trans (rA.zRX (B:=w.heap.size) (fC.out.size) (by intro k hk;omega)));have sA:=Nat.lt_of_lt_of_le aB rA.size;clear rA gC iC mC fC aB rC;generalize w3.setCells B (2+L*16) (qF (p.s m)).toList=w4 at bB pB tC sB sA ⊢;have pD:=zKT (n:=n) (L:=L) hn;have nD:((plc n L:Nat):Int)<8:=(by omega);obtain⟨⟨x0,x1⟩,⟨x2,x3⟩⟩:=pB.out;obtain⟨z0,_⟩:=bB.out L (by omega);rw[zHm p xs xb n _ _ _ iA]at z0;obtain⟨y0,_⟩:=bB.out (2+L*16+plc n L*2) (by omega);rw[zLb p xs xb n _ _ iA (by omega),<-(zDe p xs xb n iA).1]at y0;obtain⟨y1,_⟩:=bB.out (2+L*16+plc n L*2+1) (by omega);rw[Nat.add_assoc,zLb p xs xb n _ _ iA (by omega),<-(zDe p xs xb n iA).2,<-Nat.add_assoc]at y1;have cB:Hid (∀(u v:Value) (w5:World),w5=((w4.drew.setCell ⟨X,0,none⟩ u).setCell ⟨X,1,none⟩ v)->(w5.cell? ⟨B,L,none⟩=some (.int .i64 ((plc n L:Nat):Int))/\w5.cell? ⟨B,2+L*16+plc n L*2,none⟩=some (.int .i64 (qy p xs xb n (L+1)))/\w5.cell? ⟨B,2+L*16+plc n L*2+1,none⟩=some (.int .i64 (yk p xs xb n (L+1))))):=by
       intro u v w5 e5;have h:=fun o=>(yQ w4.drew X u v).cell (b:=B) (o:=o) (by show B<w4.heap.size;omega) (by omega)
       rw[e5,h,h,h];exact⟨z0,y0,y1⟩
      have dD:(L:Int)<2:=(by omega);simp only[Act.put];refine wp_region_held_drew (S:=(fun w'=>w'.cell? ⟨B,L,none⟩=some (.int .i64 ((plc n L:Nat):Int))/\w'.cell? ⟨B,2+L*16+plc n L*2,none⟩=some (.int .i64 (qy p xs xb n (L+1)))/\w'.cell? ⟨B,2+L*16+plc n L*2+1,none⟩=some (.int .i64 (yk p xs xb n (L+1))))) (by kernel_rfl) ?_ (fun hHeld=>?_)
      ·(try dsimp only)
       go_keep
      refine wpAnyH_take (i:=0) (oi:=({dst:=some 37,op:=Op.move (Operand.tmp 9),type:=3,pos:= "l02_tree.go:165",after:=#[],guard:=none}:Oper)) (v:=?_) rfl (by kernel_rfl) (by kernel_rfl) (by kernel_rfl) (fun _ _ _ h=>h) (Or.inl ⟨by rfl,?_⟩) (by assumption) ?_;rotate_left
      ·(intro w aA;(try dsimp only at aA);go_simp;try with_reducible rfl)
      try simp only[Act.put,List.setIfInBounds_toArray,List.set_cons_zero,List.set_cons_succ]
      refine wpAnyH_take (i:=1) (oi:=({dst:=some 38,op:=Op.move (Operand.tmp 9),type:=3,pos:= "l02_tree.go:165",after:=#[],guard:=none}:Oper)) (v:=?_) rfl (by kernel_rfl) (by kernel_rfl) (by kernel_rfl) (fun _ _ _ h=>h) (Or.inl ⟨by rfl,?_⟩) (by assumption) ?_;rotate_left
      ·(intro w aA;(try dsimp only at aA);go_simp;try with_reducible rfl)
      try simp only[Act.put,List.setIfInBounds_toArray,List.set_cons_zero,List.set_cons_succ]
      refine wpAnyH_take (i:=2) (oi:=({dst:=some 39,op:=Op.fieldAddr 159 (Operand.tmp 7) 0,type:=0,pos:= "l02_tree.go:165",after:=#[],guard:=none}:Oper)) (v:=?_) rfl (by kernel_rfl) (by kernel_rfl) (by kernel_rfl) (fun _ _ _ h=>h) (Or.inl ⟨by rfl,?_⟩) (by assumption) ?_;rotate_left
      ·(intro w aA;(try dsimp only at aA);go_simp;try with_reducible rfl)
      try simp only[Act.put,List.setIfInBounds_toArray,List.set_cons_zero,List.set_cons_succ]
      refine wpAnyH_take (i:=3) (oi:=({dst:=some 40,op:=Op.indexAddr 154 (Operand.tmp 39) (Operand.tmp 38),type:=0,pos:= "l02_tree.go:165",after:=#[{on:=2,ground:=Ground.data},{on:=1,ground:=Ground.data}],guard:=none}:Oper)) (v:=?_) rfl (by kernel_rfl) (by kernel_rfl) (by kernel_rfl) (fun _ _ _ h=>h) (Or.inl ⟨by rfl,?_⟩) (by assumption) ?_;rotate_left
      ·(intro w aA;(try dsimp only at aA);go_simp;try with_reducible rfl)
      try simp only[Act.put,List.setIfInBounds_toArray,List.set_cons_zero,List.set_cons_succ]
      refine wpAnyH_take (i:=4) (oi:=({dst:=some 41,op:=Op.load 2 (Operand.tmp 40),type:=2,pos:= "l02_tree.go:165",after:=#[{on:=3,ground:=Ground.data}],guard:=none}:Oper)) (v:=?_) rfl (by kernel_rfl) (by kernel_rfl) (by kernel_rfl) (fun _ _ _ h=>h) (Or.inl ⟨by rfl,?_⟩) (by assumption) ?_;rotate_left
      ·(intro w aA;(try dsimp only at aA);go_simp;try with_reducible rfl)
      try simp only[Act.put,List.setIfInBounds_toArray,List.set_cons_zero,List.set_cons_succ]
      refine wpAnyH_take (i:=5) (oi:=({dst:=some 42,op:=Op.fieldAddr 159 (Operand.tmp 7) 1,type:=0,pos:= "l02_tree.go:165",after:=#[],guard:=none}:Oper)) (v:=?_) rfl (by kernel_rfl) (by kernel_rfl) (by kernel_rfl) (fun _ _ _ h=>h) (Or.inl ⟨by rfl,?_⟩) (by assumption) ?_;rotate_left
      ·(intro w aA;(try dsimp only at aA);go_simp;try with_reducible rfl)
      try simp only[Act.put,List.setIfInBounds_toArray,List.set_cons_zero,List.set_cons_succ]
      refine wpAnyH_take (i:=6) (oi:=({dst:=some 43,op:=Op.indexAddr 156 (Operand.tmp 42) (Operand.tmp 37),type:=0,pos:= "l02_tree.go:165",after:=#[{on:=5,ground:=Ground.data},{on:=0,ground:=Ground.data}],guard:=none}:Oper)) (v:=?_) rfl (by kernel_rfl) (by kernel_rfl) (by kernel_rfl) (fun _ _ _ h=>h) (Or.inl ⟨by rfl,?_⟩) (by assumption) ?_;rotate_left
      ·(intro w aA;(try dsimp only at aA);go_simp;try with_reducible rfl)
      try simp only[Act.put,List.setIfInBounds_toArray,List.set_cons_zero,List.set_cons_succ]
      refine wpAnyH_take (i:=7) (oi:=({dst:=some 44,op:=Op.indexAddr 155 (Operand.tmp 43) (Operand.tmp 41),type:=0,pos:= "l02_tree.go:165",after:=#[{on:=6,ground:=Ground.data},{on:=4,ground:=Ground.data}],guard:=none}:Oper)) (v:=?_) rfl (by kernel_rfl) (by kernel_rfl) (by kernel_rfl) (fun _ _ _ h=>h) (Or.inl ⟨by rfl,?_⟩) (by assumption) ?_;rotate_left
      ·(intro w aA;(try dsimp only at aA);go_simp;try with_reducible rfl)
      try simp only[Act.put,List.setIfInBounds_toArray,List.set_cons_zero,List.set_cons_succ]
      refine wpAnyH_take (i:=8) (oi:=({dst:=some 45,op:=Op.load 61 (Operand.tmp 44),type:=61,pos:= "l02_tree.go:165",after:=#[{on:=7,ground:=Ground.data}],guard:=none}:Oper)) (v:=?_) rfl (by kernel_rfl) (by kernel_rfl) (by kernel_rfl) (fun _ _ _ h=>h) (Or.inl ⟨by rfl,?_⟩) (by assumption) ?_;rotate_left
      ·(intro w aA;(try dsimp only at aA);go_simp;try with_reducible rfl)
      try simp only[Act.put,List.setIfInBounds_toArray,List.set_cons_zero,List.set_cons_succ]
      refine wpAnyH_ready (rs:=[9]) (by kernel_rfl) (by simp) ?_;refine AllReadyH.cons (o:=({dst:=none,op:=Op.store 61 (Operand.tmp 8) (Operand.tmp 45),type:=0,pos:= "l02_tree.go:165",after:=#[{on:=8,ground:=Ground.data},{on:=0,ground:=Ground.phase},{on:=1,ground:=Ground.phase},{on:=2,ground:=Ground.phase},{on:=3,ground:=Ground.phase},{on:=4,ground:=Ground.phase},{on:=5,ground:=Ground.phase},{on:=6,ground:=Ground.phase},{on:=7,ground:=Ground.phase},{on:=8,ground:=Ground.phase}],guard:=none}:Oper)) rfl (fun K hK=>?_) AllReadyH.nil;go_simp
      (try go_wp2_with fail)
      refine hK.out _ _ ?_ (fun bA=>?_)
      ·(try dsimp only)
       exact cB.out _ _ _ rfl
      clear hK K hHeld;have hHeld:=bA;clear bA
      try simp only[Act.put,List.setIfInBounds_toArray,List.set_cons_zero,List.set_cons_succ]
      refine wpAnyH_done (by kernel_rfl) ?_ _;go_wp2;go_step3;have hk:=Hk.out;have iB:zF (fun k=>k=X) w4 ((w4.setCell ⟨X,0,none⟩ (.int .i64 (qy p xs xb n (L+1)))).setCell ⟨X,1,none⟩ (.int .i64 (yk p xs xb n (L+1)))).drew:=by
       have h:=yQ w4 X (.int .i64 (qy p xs xb n (L+1))) (.int .i64 (yk p xs xb n (L+1)));exact⟨h.os,h.tape,h.output,h.size,h.block⟩
      exact⟨B,X,L+1,zDa _ rfl,by omega,hB,hX,Nat.lt_of_lt_of_le sA iB.size,sB.out.trans (iB.zRX (B:=w.heap.size) sB.out.size (by intro k hk;omega)),(iB.block _ (by omega) (by omega)).trans tC.out,Or.inl ⟨rfl,by omega,bB.out.zRf iB (by omega),pB.out.put _ _⟩⟩
  ·refine⟨_,rfl,?_⟩;have HW:=zE hW;have HO:=zE hO;have Hb:=zE hb;have Hk:=zE hk;have HR:=zE hr;have lD:(L:Int)<3:=(by omega);have fD:B≠X:=(by omega);obtain⟨y0,_⟩:=HW.out (34+L*2) (by omega);rw[(zLi p xs xb n 2 o hL).1]at y0;obtain⟨y1,_⟩:=HW.out (34+L*2+1) (by omega);rw[(zLi p xs xb n 2 o hL).2]at y1;clear hW hO hb hk hr;obtain⟨wd,jC⟩:=Option.map_eq_some_iff.1 zQx;have HU:=zE jC;clear jC;by_cases hN:Nil (qy p xs xb n L) (yk p xs xb n L)
   ·have HN:=zE hN;rw[hN.1]at y0;rw[hN.2]at y1;clear hN;have dA:Hid (zw w1 (X+1) o (yg p xs xb n (2 - L+1))):=by
     have:=HR.out;rw[zLW p xs xb n hL];unfold one;rw[if_pos HN.out,List.append_nil];exact this
    have gA:=HW;have eA:=HO;have oA:=Hb;have kB:=mA;clear HW HO Hb HR mA;by_cases bC:L=0
    ·subst bC;go_wp2_with (first
      | (refine wpList_load_mid rfl 159 (.tmp 7) rfl B 0 rfl ((List.range 41).map (yr p xs xb n 2 3 o)) wd gA.out.range HU.out.1 HU.out.2 (zLx _) ?_)
      | (refine wpList_store_row rfl 159 (.tmp 6) (.tmp 67) rfl (w.heap.size+1) (zBR (yr p xs xb n 2 3 o)) rfl rfl 159 zPR eA.out (zGH _) (by rw[zGc];rfl) (zLS _ _ _ _ _ _ dA.out.one) ?_)
      | fail)
     unfold hop;dsimp only;refine bodyPost_ret (v:=.agg (zBR (yr p xs xb n 2 3 o))) (results_cell_row (P:=Tryz.prog) (ty:=159) Tryz.results102 _ _ (w.heap.size+1) 159 (zBR (yr p xs xb n 2 3 o)) (0,0) _ rfl (setRow_heap _ _ _ _ _ _ eA.out) HU.out.1 (by have:=HU.out.2;cases wd<;>exact this) (zGH _)) rfl ⟨o,rfl,?_,?_⟩
     ·exact(dA.out.setRow (by omega) _).mono (by omega)
     ·exact below_setRow oA.out (by omega) _
    ·obtain⟨M,rfl⟩:∃M,L=M+1:=⟨L - 1,by omega⟩;have hM:(0:Int)<(M:Int)+1:=(by omega);go_wp2;go_step3;have hk:=Hk.out;exact⟨B,X,M,zDa _ rfl,by omega,hB,hX,kB,oA.out,eA.out,Or.inr ⟨rfl,by omega,o,gA.out,by
      have:=dA.out;rw[show 2 - (M+1)+1=2 - M by omega]at this;exact this⟩⟩
   ·have HN:=zE hN;obtain⟨oa,oc,rfl,_⟩:=zY HR.out;have dC:w1.cell? ⟨B,40,none⟩=some (.slice oa (yg p xs xb n (2 - L)).length oc):=(HW.out 40 (by omega)).1;rcases zAm hN with e0 | ⟨e0,e1⟩
    all_goals
     clear hN;go_upto_region 9 with fail;have cC:Below w1.heap.size w1 (w1.alloc (.cells #[.int .i64 (qy p xs xb n L),.int .i64 (yk p xs xb n L)] 61)):=zC _ _;have oB:(w1.alloc (.cells #[.int .i64 (qy p xs xb n L),.int .i64 (yk p xs xb n L)] 61)).cell? ⟨B,40,none⟩=some (.slice oa (yg p xs xb n (2 - L)).length oc):=((HW.out.zRX cC) 40 (by omega)).1;have mB:Hid (Below w1.heap.size w1 (w1.alloc (.cells #[.int .i64 (qy p xs xb n L),.int .i64 (yk p xs xb n L)] 61)).drew):=cC.drew;clear cC;have sC:Hid (zw (w1.alloc (.cells #[.int .i64 (qy p xs xb n L),.int .i64 (yk p xs xb n L)] 61)).drew w1.heap.size (.slice (some ⟨w1.heap.size,0,none⟩) 1 1) [(qy p xs xb n L,yk p xs xb n L)]):=World.ownsRow_lit (e:=61) (size:=2) w1 #[.int .i64 (qy p xs xb n L),.int .i64 (yk p xs xb n L)] 1 (Nat.le_refl _) (by unfold maxLen;omega) rfl
     go_region_law (refine zOG rfl (.tmp 55) (.tmp 60) rfl (X+1) w1.heap.size (.slice oa (yg p xs xb n (2 - L)).length oc) (yg p xs xb n (2 - L)) (by simp[Act.eval]) (HR.out.zRX mB.out) (some ⟨w1.heap.size,0,none⟩) 1 1 [(qy p xs xb n L,yk p xs xb n L)] (by simp[Act.eval]) rfl sC.out (by have:=zMe p xs xb n (2 - L);simp;omega) (by have:=mB.out.size;omega) ?_;intro v3 w3 tB kA;obtain⟨va,vc,rfl,_⟩:=zY tB;have eC:zF (fun k=>X<k) w1 w3:=(zF.zRa mB.out).trans ⟨kA.os,kA.tape,kA.output,kA.size,fun k hk eD=>kA.block k hk (fun e=>eD (by have:=(HR.out.lt e.symm).1;omega))⟩;obtain⟨k0,oD⟩:=(HW.out.zRf eC (by omega)) 40 (by omega);have rB:=zE eC;have lC:=zE tB;clear eC tB kA)
     all_goals
      have tA:(yg p xs xb n (2 - L) ++ [(qy p xs xb n L,yk p xs xb n L)]).length=(yg p xs xb n (2 - L)).length+1:=(by simp);have lB:zF (fun k=>X<k\/k=B) w1 (w3.setCell ⟨B,40,none⟩ (.slice va ((yg p xs xb n (2 - L)).length+1) vc)):=zF.setCell (S:=fun k=>X<k\/k=B) (rB.out.mono (fun k hk=>Or.inl hk)) (p:=⟨B,40,none⟩) (Or.inr rfl) _;have gA:=zE (zP9 (.slice va ((yg p xs xb n (2 - L)).length+1) vc) (HW.out.zRf rB.out (by omega)));have dA:Hid (zw (w3.setCell ⟨B,40,none⟩ (.slice va ((yg p xs xb n (2 - L)).length+1) vc)) (X+1) (.slice va ((yg p xs xb n (2 - L)).length+1) vc) (yg p xs xb n (2 - L+1))):=by
       have:=lC.out.put (b:=B) (o:=40) (by omega) (.slice va ((yg p xs xb n (2 - L)).length+1) vc);rw[tA]at this;rw[zLW p xs xb n hL];unfold one;rw[if_neg HN.out];exact this
      have eA:=zE ((lB.block _ (by omega) (by omega)).trans HO.out);have oA:=zE (Hb.out.trans (lB.zRX (B:=w.heap.size) Hb.out.size (by intro k hk;omega)));have kB:=Nat.lt_of_lt_of_le mA lB.size;clear lB lC rB mB sC oB dC HW HO Hb HR mA k0 oD tA y0 y1;generalize w3.setCell ⟨B,40,none⟩ (.slice va ((yg p xs xb n (2 - L)).length+1) vc)=w4 at gA dA eA oA kB ⊢;generalize Value.slice va ((yg p xs xb n (2 - L)).length+1) vc=oq at gA dA ⊢;by_cases bC:L=0
      ·subst bC;go_wp2_with (first
        | (refine wpList_load_mid rfl 159 (.tmp 7) rfl B 0 rfl ((List.range 41).map (yr p xs xb n 2 3 oq)) wd gA.out.range HU.out.1 HU.out.2 (zLx _) ?_)
        | (refine wpList_store_row rfl 159 (.tmp 6) (.tmp 67) rfl (w.heap.size+1) (zBR (yr p xs xb n 2 3 oq)) rfl rfl 159 zPR eA.out (zGH _) (by rw[zGc];rfl) (zLS _ _ _ _ _ _ dA.out.one) ?_)
        | fail)
       unfold hop;dsimp only;refine bodyPost_ret (v:=.agg (zBR (yr p xs xb n 2 3 oq))) (results_cell_row (P:=Tryz.prog) (ty:=159) Tryz.results102 _ _ (w.heap.size+1) 159 (zBR (yr p xs xb n 2 3 oq)) (0,0) _ rfl (setRow_heap _ _ _ _ _ _ eA.out) HU.out.1 (by have:=HU.out.2;cases wd<;>exact this) (zGH _)) rfl ⟨oq,rfl,?_,?_⟩
       ·exact(dA.out.setRow (by omega) _).mono (by omega)
       ·exact below_setRow oA.out (by omega) _
      ·obtain⟨M,rfl⟩:∃M,L=M+1:=⟨L - 1,by omega⟩;have hM:(0:Int)<(M:Int)+1:=(by omega);go_wp2;go_step3;have hk:=Hk.out;exact⟨B,X,M,zDa _ rfl,by omega,hB,hX,kB,oA.out,eA.out,Or.inr ⟨rfl,by omega,oq,gA.out,by
        have:=dA.out;rw[show 2 - (M+1)+1=2 - M by omega]at this;exact this⟩⟩
 ·intro enter;go_upto_region 1 with fail;generalize (w.alloc (.cells #[.int .i64 xs,.int .i64 xb] 61)).alloc (.cells #[.int .i64 0,.int .i64 0,.int .i64 0,.int .i64 0,.int .i64 0,.int .i64 0,.int .i64 0,.int .i64 0,.int .i64 0,.int .i64 0,.int .i64 0,.int .i64 0,.int .i64 0,.int .i64 0,.int .i64 0,.int .i64 0,.int .i64 0,.int .i64 0,.int .i64 0,.int .i64 0,.int .i64 0,.int .i64 0,.int .i64 0,.int .i64 0,.int .i64 0,.int .i64 0,.int .i64 0,.int .i64 0,.int .i64 0,.int .i64 0,.int .i64 0,.int .i64 0,.int .i64 0,.int .i64 0,.int .i64 0,.int .i64 0,.int .i64 0,.int .i64 0,.int .i64 0,.int .i64 0,.slice none 0 0] 159)=W at eB nB fB lA ⊢;have jB:=zC W (.cells (zHi n) 159);have vC:=zE (eB.out.zRX jB);have aD:=zE (zQG W n);have cD:=zE ((jB.block _ (by omega)).trans nB.out);have kD:=zA fB jB;have pC:(W.alloc (.cells (zHi n) 159)).heap.size=w.heap.size+3:=(by rw[World.size_alloc,lA]);obtain⟨⟨x0,x1⟩,⟨x2,x3⟩⟩:=vC.out;have iD:=zE lA;clear jB eB nB fB lA;go_wp2_with (first
   | (refine wpList_store_row rfl 159 (.tmp 7) (.tmp 15) rfl W.heap.size (zHi n) rfl rfl 159 zPR (heap_alloc_last _ _) (zO8 n) rfl (zP1 n) ?_;rw[World.setRow_alloc_new])
   | fail)
  go_step3
  rename_i K hK
  refine hK _ _ (enter 0 _ _ _ rfl ?_);clear hK;have lA:=iD.out;have fA:=zC (W.alloc (.cells (zHi n) 159)) (.cells #[.int .i64 xs,.int .i64 xb] 61);refine⟨W.heap.size,w.heap.size+3,0,zDa _ rfl,by omega,by omega,by omega,by rw[World.size_alloc,pC];omega,zA kD fA,?_,Or.inl ⟨rfl,by omega,?_,?_⟩⟩
  ·exact(fA.block _ (by omega)).trans cD.out
  ·exact(aD.out.zRX fA).congr fun i hi=>zPa p xs xb n hi
  ·have:=zc.zRZ (W.alloc (.cells (zHi n) 159)) (.int .i64 xs) (.int .i64 xb) 61;rw[pC]at this;exact this
theorem zCB(p:zI)(i:Nat)(s:zL):(yG p i s).s i=s:=if_pos rfl
theorem zDR(p:zI){i j:Nat}(s:zL)(h:j≠i):(yG p i s).s j=p.s j:=if_neg h
theorem zD1{p:zI}{i:Nat}{s:zL}{xs xb:Int}(hi:qE (p.s i))(h:zr p xs xb):zr (yG p i s) xs xb:=by
 obtain⟨h1,h2,h3,h4⟩:=h;refine⟨h1,h2,h3,?_⟩;have aA:xs.toNat≠i:=fun e=>by
  rw[e]at h4;have:=hi.1;omega
 rw[zDR p s aA];exact h4
theorem zLs{p:zI}{i:Nat}{s t:zL}(hi:qE (p.s i))(h:zAg p t):zAg (yG p i s) t:=by
 refine⟨h.1,?_⟩;rcases h.2 with h2 | h2
 ·exact Or.inl h2
 ·refine Or.inr ⟨h2.1,h2.2.1,fun m hm=>?_⟩;rcases h2.2.2 m hm with h3 | h3
  ·exact Or.inl h3
  ·exact Or.inr ⟨zD1 hi h3.1,h3.2⟩
theorem zGv{p:zI}{i:Nat}{s:zL}(hR:zx p)(hi:qz p.n p.s i)(hs:zAg p s):zx (yG p i s):=by
 refine⟨hR.1,fun j hj=>?_,fun j hj=>?_⟩
 ·by_cases e:j=i
  ·rw[e,zCB];exact Or.inr (zLs hi.2.1 hs)
  ·rw[zDR p s e];rcases hR.2.1 j hj with h | h
   ·exact Or.inl h
   ·exact Or.inr (zLs hi.2.1 h)
 ·obtain⟨h1,h2,h3,h4⟩:=hR.2.2 j hj;refine⟨h1,h2,?_,h4⟩;have aA:(p.h j).toNat≠i:=fun e=>h3 (by rw[e];exact hi.2.1)
  show ¬qE ((yG p i s).s (p.h j).toNat);rw[zDR p s aA];exact h3
theorem zAG{p:zI}{s:zL}(h:zAg p s):¬qE s:=fun hf=>by
 have:=hf.1;have:=h.1.1;omega
theorem zLI{p:zI}{i:Nat}{s:zL}(hi:qE (p.s i))(hs:¬qE s):∀n,roomN (yG p i s).s n+(if i<n then 1 else 0)=roomN p.s n
 | 0=>rfl
 | n+1=>by
  have ih:=zLI hi hs n;by_cases e:n=i
  ·subst e;rw[if_pos (by omega)];rw[if_neg (by omega)]at ih;rw[zCD (by rw[zCB];exact hs),zBu hi];omega
  ·have aA:(yG p i s).s n=p.s n:=zDR p s e;have bA:(if i<n+1 then 1 else 0)=(if i<n then 1 else 0):=by
    by_cases e2:i<n
    ·rw[if_pos e2,if_pos (by omega)]
    ·rw[if_neg e2,if_neg (by omega)]
   rw[bA];by_cases hf:qE (p.s n)
   ·rw[zBu (by rw[aA];exact hf),zBu hf];omega
   ·rw[zCD (by rw[aA];exact hf),zCD hf];exact ih
def zBV(p:zI)(xs xb:Int)(n L:Nat)(x:Int)(i:Nat):Int:=if i=plc n L then x else yp p (qy p xs xb n L) (yk p xs xb n L) i
def zBP(p:zI)(xs xb:Int)(n L:Nat)(y:Int)(i:Nat):Int:=if i=plc n L then y else zAI p (qy p xs xb n L) (yk p xs xb n L) i
noncomputable def zNf(p:zI)(xs xb:Int)(n:Nat)(b:Int)(o:zDr)(L:Nat):zDr:=zFF o.zRd (zBV p xs xb n L o.ps) (zBP p xs xb n L o.pb) b
noncomputable def layS(p:zI)(xs xb:Int)(n:Nat)(b:Int)(o:zDr):Nat->zDr
 | 0=>o
 | k+1=>zNf p xs xb n b (layS p xs xb n b o k) (1 - k)
theorem zIP:qC (zEH 0)=0:=rfl
theorem zFb(p:zI)(s:zL):qC (qw p s).zRd<=qC p+zAO s:=by
 unfold qw;split
 ·split
  ·exact zJg _ _ _
  ·show qC (zEH 0)<=_;rw[zIP];omega
 ·show qC (zEH 0)<=_;rw[zIP];omega
theorem zMb(p:zI)(f g:Nat->Int)(b:Int):qC (zFF p f g b).zRd<=qC p+8:=by
 unfold zFF;split
 ·show qC p<=_;omega
 ·exact zFb p (zAh f g b)
theorem zGb(p:zI)(xs xb:Int)(n:Nat)(b:Int)(o:zDr):∀k,qC (layS p xs xb n b o k).zRd<=qC o.zRd+8*k
 | 0=>Nat.le_refl _
 | k+1=>by
  have h1:=zGb p xs xb n b o k;have h2:=zMb (layS p xs xb n b o k).zRd (zBV p xs xb n (1 - k) (layS p xs xb n b o k).ps) (zBP p xs xb n (1 - k) (layS p xs xb n b o k).pb) b;show qC (zFF _ _ _ _).zRd<=_;omega
theorem zOf{p:zI}{xs xb:Int}{n M L:Nat}{o:Value}{w:World}{B:Nat}(hL:L<2)(h:yL w B (yr p xs xb n 2 M o)):w.rangeAt B (2+L*16) (zp (zCG p xs xb n L)).toList:=fun j v hv=>by
 have hj:j<16:=by
  have:=(List.getElem?_eq_some_iff.1 hv).1;simpa[qB]using this
 have e:(zp (zCG p xs xb n L)).toList[j]?=some (.int .i64 (zCG p xs xb n L j)):=by rw[Array.getElem?_toList];exact yM (zCG p xs xb n L) hj
 rw[e]at hv;simp only[Option.some.injEq]at hv;rw[<-hv,(h (2+L*16+j) (by omega)).1];unfold yr;rw[if_neg (by omega),if_pos (by omega),show(2+L*16+j - 2) / 16=L by omega,show(2+L*16+j - 2) % 16=j by omega,if_pos (by omega)]
theorem zQO(p:zI)(xs xb:Int)(n L:Nat)(x y:Int)(hn:n<64):zp (fun j=>if j=plc n L*2 then x else if j=plc n L*2+1 then y else zCG p xs xb n L j)=zp (mix (zBV p xs xb n L x) (zBP p xs xb n L y)):=by
 refine zJw fun j hj=>?_
 unfold mix zBV zBP;by_cases h1:j=plc n L*2
 ·rw[if_pos h1,if_pos (by omega),if_pos (by omega)]
 rw[if_neg h1];by_cases h2:j=plc n L*2+1
 ·rw[if_pos h2,if_neg (by omega),if_pos (by omega)]
 rw[if_neg h2];unfold zCG yp zAI zb zt;by_cases h3:j % 2=0
 ·rw[if_pos h3,if_neg (show ¬j / 2=plc n L by omega),show j / 2*2=j by omega]
 ·rw[if_neg h3,if_neg (show ¬j / 2=plc n L by omega),show j / 2*2+1=j by omega]
structure zCO where
 zRd:zI
 rs:Int
 rb:Int
 old:List (Int×Int)
 code:Int
def zAU(c:Int):zCO:=⟨zEH 0,0,0,[],c⟩
def zHa(t:zCO)(w:World)(e:Ending)(w':World):Prop:=
 ∃v0 v1 vo lo hi,e = .returned (.agg #[v0,v1,.int .i64 t.rs,.int .i64 t.rb,vo,.int .i64 t.code])/\w.heap.size<=lo/\hi<=w'.heap.size/\zy w' lo hi v0 v1 t.zRd/\zw w' w.heap.size vo t.old/\(∀k,vo.ownBlock=some k->k<lo\/hi<=k)/\Below w.heap.size w w'
open Classical in
noncomputable def zBp(p:zI)(xs xb:Int)(n:Nat)(b:Int)(o:zDr):zCO:=
 if (layS p xs xb n b o 1).code≠0 then zAU (layS p xs xb n b o 1).code
 else if (layS p xs xb n b o 2).code≠0 then zAU (layS p xs xb n b o 2).code
 else⟨(layS p xs xb n b o 2).zRd,(layS p xs xb n b o 2).ps,(layS p xs xb n b o 2).pb,yg p xs xb n 3,0⟩
theorem zKF{p:zI}{xs xb:Int}{n:Nat}{b:Int}{o:zDr}{k:Nat}(hk:k<2)(h:∀j,j<=k->(layS p xs xb n b o j).code=0)(hc:(layS p xs xb n b o (k+1)).code≠0):zBp p xs xb n b o=zAU (layS p xs xb n b o (k+1)).code:=by
 unfold zBp;rcases k with _ | _ | k
 ·rw[if_pos hc]
 ·rw[if_neg (fun hh=>hh (h 1 (by omega))),if_pos hc]
 ·omega
theorem zL2{p:zI}{xs xb:Int}{n:Nat}{b:Int}{o:zDr}(h:∀j,j<=2->(layS p xs xb n b o j).code=0):zBp p xs xb n b o=⟨(layS p xs xb n b o 2).zRd,(layS p xs xb n b o 2).ps,(layS p xs xb n b o 2).pb,yg p xs xb n 3,0⟩:=by
 unfold zBp;rw[if_neg (fun hh=>hh (h 1 (by omega))),if_neg (fun hh=>hh (h 2 (by omega)))]
theorem zO9(w:World)(a0 a1 x0 x1:Value)(f:Nat->Value)(t1 t2 t3 t4:TypeId) :
  zc ((((w.alloc (.cells #[a0,a1] t1)).alloc (.cells (zBR f) t2)).alloc (.cells #[x0,x1] t3)).alloc (.cells #[.slice none 0 0,.slice none 0 0,.int .i64 0,.int .i64 0,.slice none 0 0,.int .i64 0] t4)) w.heap.size a0 a1/\
  yL ((((w.alloc (.cells #[a0,a1] t1)).alloc (.cells (zBR f) t2)).alloc (.cells #[x0,x1] t3)).alloc (.cells #[.slice none 0 0,.slice none 0 0,.int .i64 0,.int .i64 0,.slice none 0 0,.int .i64 0] t4)) (w.heap.size+1) f/\
  zc ((((w.alloc (.cells #[a0,a1] t1)).alloc (.cells (zBR f) t2)).alloc (.cells #[x0,x1] t3)).alloc (.cells #[.slice none 0 0,.slice none 0 0,.int .i64 0,.int .i64 0,.slice none 0 0,.int .i64 0] t4)) (w.heap.size+1+1) x0 x1/\
  zi ((((w.alloc (.cells #[a0,a1] t1)).alloc (.cells (zBR f) t2)).alloc (.cells #[x0,x1] t3)).alloc (.cells #[.slice none 0 0,.slice none 0 0,.int .i64 0,.int .i64 0,.slice none 0 0,.int .i64 0] t4)) (w.heap.size+1+1+1) (.slice none 0 0) (.slice none 0 0) (.int .i64 0) (.int .i64 0) (.slice none 0 0) (.int .i64 0)/\
  Below w.heap.size w ((((w.alloc (.cells #[a0,a1] t1)).alloc (.cells (zBR f) t2)).alloc (.cells #[x0,x1] t3)).alloc (.cells #[.slice none 0 0,.slice none 0 0,.int .i64 0,.int .i64 0,.slice none 0 0,.int .i64 0] t4))/\
  ((((w.alloc (.cells #[a0,a1] t1)).alloc (.cells (zBR f) t2)).alloc (.cells #[x0,x1] t3)).alloc (.cells #[.slice none 0 0,.slice none 0 0,.int .i64 0,.int .i64 0,.slice none 0 0,.int .i64 0] t4)).heap.size=w.heap.size+4:=by
 have b1:=zC w (.cells #[a0,a1] t1);have b2:=zC (w.alloc (.cells #[a0,a1] t1)) (.cells (zBR f) t2);have b3:=zC ((w.alloc (.cells #[a0,a1] t1)).alloc (.cells (zBR f) t2)) (.cells #[x0,x1] t3);have b4:=zC (((w.alloc (.cells #[a0,a1] t1)).alloc (.cells (zBR f) t2)).alloc (.cells #[x0,x1] t3)) (.cells #[.slice none 0 0,.slice none 0 0,.int .i64 0,.int .i64 0,.slice none 0 0,.int .i64 0] t4);refine⟨(((zc.zRZ w a0 a1 t1).zRX b2).zRX b3).zRX b4,?_,?_,?_,zA (zA (zA b1 b2) b3) b4,by simp⟩
 ·have hw:yL ((w.alloc (.cells #[a0,a1] t1)).alloc (.cells (zBR f) t2)) (w.heap.size+1) f:=fun i hi=>by
   have hb:=heap_alloc_new (w.alloc (.cells #[a0,a1] t1)) (.cells (zBR f) t2);rw[World.size_alloc]at hb;refine zJ (i:=i) hb ?_;simp[zBR,hi]
  exact(hw.zRX b3).zRX b4
 ·have:=(zc.zRZ ((w.alloc (.cells #[a0,a1] t1)).alloc (.cells (zBR f) t2)) x0 x1 t3).zRX b4;rw[World.size_alloc,World.size_alloc]at this;exact this
 ·have:=zi.zRZ (((w.alloc (.cells #[a0,a1] t1)).alloc (.cells (zBR f) t2)).alloc (.cells #[x0,x1] t3)) (.slice none 0 0) (.slice none 0 0) (.int .i64 0) (.int .i64 0) (.slice none 0 0) (.int .i64 0) t4;rw[World.size_alloc,World.size_alloc,World.size_alloc]at this;exact this
def zRS(p:zI)(xs xb:Int)(n:Nat)(S:Nat->zDr)(o:Value)(w:World)(k:Nat)(wr:World):Prop:=
 (∀j,j<=k->(S j).code=0)/\∃s0 s1,zc wr w.heap.size s0 s1/\zu wr 0 wr.heap.size s0 s1 (S k).zRd/\(0<k->zy wr (w.heap.size+5) wr.heap.size s0 s1 (S k).zRd)/\
  zc wr (w.heap.size+4) (.int .i64 (S k).ps) (.int .i64 (S k).pb)/\yL wr (w.heap.size+1) (yr p xs xb n 2 3 o)/\
  zi wr (w.heap.size+1+1+1) (.slice none 0 0) (.slice none 0 0) (.int .i64 0) (.int .i64 0) (.slice none 0 0) (.int .i64 0)/\w.heap.size+5<=wr.heap.size/\Below w.heap.size w wr
theorem qA.all{w:World}{lo hi:Nat}{v:Value}{n:Nat}{f:Nat->zL}(h:qA w lo hi v n f):qA w 0 w.heap.size v n f:=by
 obtain⟨h0,a,bA,hv,aA,hc⟩:=h;refine⟨h0,a,bA,hv,aA,fun hn=>?_⟩;obtain⟨b,off,ha,h1,h2,h3⟩:=hc hn;refine⟨b,off,ha,Nat.zero_le _,?_,fun i hi=>?_⟩
 ·obtain⟨v0,v1,v2,c0,_⟩:=h3 0 hn;exact zD c0
 ·obtain⟨v0,v1,v2,c0,c1,c2,hs⟩:=h3 i hi;exact⟨v0,v1,v2,c0,c1,c2,hs.all⟩
theorem zu.all{w:World}{lo hi:Nat}{v0 v1:Value}{p:zI}(h:zu w lo hi v0 v1 p):zu w 0 w.heap.size v0 v1 p:=⟨h.1.all,h.2.all⟩
theorem zHD(v0 v1:Value)(lo hi:Nat)(p q:zI)(xs xb x y b:Int)(n:Nat)(o:Value)(w:World)(h1:zu w lo hi v0 v1 q)(hn:n<64)(hq:qC q+16<=1048576)(hr:zw w 0 o (yg p xs xb n 3)) :
  Calls Tryz.prog 101 #[.agg #[v0,v1],.agg (zBR (yr p xs xb n 2 3 o)),.agg #[.int .i64 x,.int .i64 y],.int .i64 b] w fun e w'=>
   ((zBp p xs xb n b ⟨q,x,y,0⟩).code≠0/\e = .returned (.agg #[.slice none 0 0,.slice none 0 0,.int .i64 0,.int .i64 0,.slice none 0 0,.int .i64 (zBp p xs xb n b ⟨q,x,y,0⟩).code])/\Below w.heap.size w w')\/
   ((zBp p xs xb n b ⟨q,x,y,0⟩).code=0/\∃s0 s1,e = .returned (.agg #[s0,s1,.int .i64 (layS p xs xb n b ⟨q,x,y,0⟩ 2).ps,.int .i64 (layS p xs xb n b ⟨q,x,y,0⟩ 2).pb,o,.int .i64 0])/\zy w' w.heap.size w'.heap.size s0 s1 (layS p xs xb n b ⟨q,x,y,0⟩ 2).zRd/\Below w.heap.size w w'):=by
 have Hp:=zE h1;obtain⟨a,c,a',c',rfl,rfl⟩:=h1.form;have Hq:=zE hq;have Hr:=zE hr;clear h1 hq hr;have jD:=zO9 w (.slice a q.n c) (.slice a' q.hn c') (.int .i64 x) (.int .i64 y) (yr p xs xb n 2 3 o) 33 159 61 64;go_enter Tryz.func101,Tryz.ntmps101;go_upto_region 1 with fail;generalize (((w.alloc (.cells #[.slice a q.n c,.slice a' q.hn c'] 33)).alloc (.cells (zBR (yr p xs xb n 2 3 o)) 159)).alloc (.cells #[.int .i64 x,.int .i64 y] 61)).alloc (.cells #[.slice none 0 0,.slice none 0 0,.int .i64 0,.int .i64 0,.slice none 0 0,.int .i64 0] 64)=W at jD ⊢;obtain⟨hB,hW,hX,hR,aD,hz⟩:=jD;have HB:=zE hB;have HW:=zE hW;have HR:=zE hR;obtain⟨⟨x0,x1⟩,⟨x2,x3⟩⟩:=hX;have fA:=zC W (.cells #[.int .i64 x,.int .i64 y] 61);have pD:=zE (show zc (W.alloc (.cells #[.int .i64 x,.int .i64 y] 61)) (w.heap.size+4) (.int .i64 x) (.int .i64 y)from hz▸zc.zRZ W (.int .i64 x) (.int .i64 y) 61);clear hB hW hR;go_wp2_with fail;have mD:Hid (zRS p xs xb n (layS p xs xb n b ⟨q,x,y,0⟩) o w 0 (W.alloc (.cells #[.int .i64 x,.int .i64 y] 61))):=by
  refine⟨fun j hj=>?_,_,_,HB.out.zRX fA,((Hp.out.zRX aD).zRX fA).all,fun h=>absurd h (Nat.lt_irrefl _),pD.out,HW.out.zRX fA,HR.out.zRX fA,by rw[World.size_alloc];omega,zA aD fA⟩;obtain rfl:j=0:=(by omega);rfl
 have cE:=zE (zGb p xs xb n b ⟨q,x,y,0⟩);clear fA pD HB HW HR x0 x1 x2 x3 aD hz
 go_loopw [15] (fun i wr=>∃k:Nat,k<=2/\i = .int .i64 k/\zRS p xs xb n (layS p xs xb n b ⟨q,x,y,0⟩) o w k wr) (fun i _=>2 - (intOf i).toNat)
 case atStart=>exact⟨0,by omega,rfl,mD.out⟩
 case round=>
  obtain⟨k,hk,rfl,tA,s0,s1,fD,vC,rD,nD,oD,lD,sE,fC⟩:=hrel;have jA:=zE tA;have sD:=zE vC;have kD:=zE rD;have rC:=zE fD;have oC:=zE nD;have mC:=zE oD;have jC:=zE lD;obtain⟨ra,rc,gC,kC,rfl,rfl⟩:=vC.form;clear tA vC rD fD nD oD lD mD;obtain⟨⟨x0,x1⟩,⟨x2,x3⟩⟩:=rC.out;obtain⟨⟨y0,y1⟩,⟨y2,y3⟩⟩:=oC.out;by_cases kE:k<2
  ·obtain⟨L,gD⟩:∃L,L=1 - k:=⟨_,rfl⟩;have hL:L<2:=(by omega);have pE:(L:Int)<2:=(by omega);have aE:(k:Int)<2:=(by omega);have jE:(1:Int) - (k:Int)=(L:Int):=(by omega);have nE:Hid (layS p xs xb n b ⟨q,x,y,0⟩ (k+1)=zNf p xs xb n b (layS p xs xb n b ⟨q,x,y,0⟩ k) L):=(by rw[gD];rfl);have lE:=zE (cE.out k);have tC:Hid ((Tryz.prog.info? 155).map (·.size)=some (zp (zCG p xs xb n L)).size):=by
    show _=_;rw[qB];exact zB4
   have oE:Hid ((Tryz.prog.info? 155).map (·.size)=some (zp (zCG p xs xb n L)).toList.length):=by
    show _=_;rw[zB4];simp[zp]
   clear gD;go_upto_region 7 with(first
    | (refine wpList_load_mid rfl 155 (.tmp 22) rfl (w.heap.size+1) (2+L*16) rfl (zp (zCG p xs xb n L)).toList _ (zOf hL mC.out) zHQ rfl oE.out ?_)
    | (refine wpList_store_row rfl 155 (.tmp 12) (.tmp 23) rfl wr.heap.size (zp (zCG p xs xb n L)) rfl rfl 155 #[Value.int .i64 0,Value.int .i64 0,Value.int .i64 0,Value.int .i64 0,Value.int .i64 0,Value.int .i64 0,Value.int .i64 0,Value.int .i64 0,Value.int .i64 0,Value.int .i64 0,Value.int .i64 0,Value.int .i64 0,Value.int .i64 0,Value.int .i64 0,Value.int .i64 0,Value.int .i64 0] (heap_alloc_last _ _) tC.out (by rw[qB];rfl) (zAt _) ?_;rw[World.setRow_alloc_new]))
   have fA:=zC wr (.cells (zp (zCG p xs xb n L)) 155);have bC:Hid ((wr.alloc (.cells (zp (zCG p xs xb n L)) 155)).heap[wr.heap.size]?=some (.cells (zp (zCG p xs xb n L)) 155)):=heap_alloc_last _ _;have nC:Hid (wr.heap.size<(wr.alloc (.cells (zp (zCG p xs xb n L)) 155)).heap.size):=(by show _<_;rw[World.size_alloc];omega);have jB:=zE (sD.out.zRX fA);have eB:=zE (rC.out.zRX fA);have pA:=zE (oC.out.zRX fA);have nA:=zE (mC.out.zRX fA);have mB:=zE (jC.out.zRX fA);have oA:=zA fC fA;clear x0 x1 x2 x3 y0 y1 y2 y3 fA fC sD kD rC oC mC jC;generalize wr.alloc (.cells (zp (zCG p xs xb n L)) 155)=wA at bC nC jB eB pA nA mB oA ⊢;have tD:=zKT (n:=n) (L:=L) hn;have mE:((plc n L:Nat):Int)<8:=(by omega);obtain⟨⟨y0,y1⟩,⟨y2,y3⟩⟩:=pA.out;obtain⟨z0,_⟩:=nA.out L (by omega);rw[zHm p xs xb n _ _ _ hL]at z0;obtain⟨c0,c1⟩:=zJ (i:=plc n L*2) bC.out (yM (zCG p xs xb n L) (by omega));obtain⟨c2,c3⟩:=zJ (i:=plc n L*2+1) bC.out (yM (zCG p xs xb n L) (by omega));have vA:Hid (∀(u v:Value) (w5:World),w5=((wA.drew.setCell ⟨wr.heap.size,plc n L*2,none⟩ u).setCell ⟨wr.heap.size,plc n L*2+1,none⟩ v)->(w5.cell? ⟨w.heap.size+1,L,none⟩=some (.int .i64 ((plc n L:Nat):Int))/\w5.cell? ⟨w.heap.size+4,0,none⟩=some (.int .i64 (layS p xs xb n b ⟨q,x,y,0⟩ k).ps)/\w5.cell? ⟨w.heap.size+4,1,none⟩=some (.int .i64 (layS p xs xb n b ⟨q,x,y,0⟩ k).pb))):=by
    intro u v w5 e5;have hT:zF (fun k=>k=wr.heap.size) wA.drew ((wA.drew.setCell ⟨wr.heap.size,plc n L*2,none⟩ u).setCell ⟨wr.heap.size,plc n L*2+1,none⟩ v):=((zF.refl (fun k=>k=wr.heap.size) wA.drew).setCell (p:=⟨wr.heap.size,plc n L*2,none⟩) rfl _).setCell (p:=⟨wr.heap.size,plc n L*2+1,none⟩) rfl _;have sC:wr.heap.size<wA.drew.heap.size:=nC.out;rw[e5,hT.cell (by omega) (by omega),hT.cell (by omega) (by omega),hT.cell (by omega) (by omega)];exact⟨z0,y0,y2⟩
   simp only[Act.put];refine wp_region_held_drew (S:=(fun w'=>w'.cell? ⟨w.heap.size+1,L,none⟩=some (.int .i64 ((plc n L:Nat):Int))/\w'.cell? ⟨w.heap.size+4,0,none⟩=some (.int .i64 (layS p xs xb n b ⟨q,x,y,0⟩ k).ps)/\w'.cell? ⟨w.heap.size+4,1,none⟩=some (.int .i64 (layS p xs xb n b ⟨q,x,y,0⟩ k).pb))) (by kernel_rfl) ?_ (fun hHeld=>?_)
   ·(try dsimp only)
    go_keep
   refine wpAnyH_take (i:=0) (oi:=({dst:=some 24,op:=Op.move (Operand.tmp 11),type:=3,pos:= "l02_tree.go:185",after:=#[],guard:=none}:Oper)) (v:=?_) rfl (by kernel_rfl) (by kernel_rfl) (by kernel_rfl) (fun _ _ _ h=>h) (Or.inl ⟨by rfl,?_⟩) (by assumption) ?_;rotate_left
   ·(intro w bA;(try dsimp only at bA);go_simp;try with_reducible rfl)
   try simp only[Act.put,List.setIfInBounds_toArray,List.set_cons_zero,List.set_cons_succ]
   refine wpAnyH_take (i:=1) (oi:=({dst:=some 25,op:=Op.fieldAddr 159 (Operand.tmp 5) 0,type:=0,pos:= "l02_tree.go:185",after:=#[],guard:=none}:Oper)) (v:=?_) rfl (by kernel_rfl) (by kernel_rfl) (by kernel_rfl) (fun _ _ _ h=>h) (Or.inl ⟨by rfl,?_⟩) (by assumption) ?_;rotate_left
   ·(intro w bA;(try dsimp only at bA);go_simp;try with_reducible rfl)
   try simp only[Act.put,List.setIfInBounds_toArray,List.set_cons_zero,List.set_cons_succ]
   refine wpAnyH_take (i:=2) (oi:=({dst:=some 26,op:=Op.indexAddr 154 (Operand.tmp 25) (Operand.tmp 24),type:=0,pos:= "l02_tree.go:185",after:=#[{on:=1,ground:=Ground.data},{on:=0,ground:=Ground.data}],guard:=none}:Oper)) (v:=?_) rfl (by kernel_rfl) (by kernel_rfl) (by kernel_rfl) (fun _ _ _ h=>h) (Or.inl ⟨by rfl,?_⟩) (by assumption) ?_;rotate_left
   ·(intro w bA;(try dsimp only at bA);go_simp;try with_reducible rfl)
   try simp only[Act.put,List.setIfInBounds_toArray,List.set_cons_zero,List.set_cons_succ]
   refine wpAnyH_take (i:=3) (oi:=({dst:=some 27,op:=Op.load 2 (Operand.tmp 26),type:=2,pos:= "l02_tree.go:185",after:=#[{on:=2,ground:=Ground.data}],guard:=none}:Oper)) (v:=?_) rfl (by kernel_rfl) (by kernel_rfl) (by kernel_rfl) (fun _ _ _ h=>h) (Or.inl ⟨by rfl,?_⟩) (by assumption) ?_;rotate_left
   ·(intro w bA;(try dsimp only at bA);go_simp;try with_reducible rfl)
   try simp only[Act.put,List.setIfInBounds_toArray,List.set_cons_zero,List.set_cons_succ]
   refine wpAnyH_take (i:=4) (oi:=({dst:=some 28,op:=Op.load 61 (Operand.tmp 9),type:=61,pos:= "l02_tree.go:185",after:=#[],guard:=none}:Oper)) (v:=?_) rfl (by kernel_rfl) (by kernel_rfl) (by kernel_rfl) (fun _ _ _ h=>h) (Or.inl ⟨by rfl,?_⟩) (by assumption) ?_;rotate_left
   ·(intro w bA;(try dsimp only at bA);go_simp;try with_reducible rfl)
   try simp only[Act.put,List.setIfInBounds_toArray,List.set_cons_zero,List.set_cons_succ]
   refine wpAnyH_take (i:=5) (oi:=({dst:=some 29,op:=Op.indexAddr 155 (Operand.tmp 12) (Operand.tmp 27),type:=0,pos:= "l02_tree.go:185",after:=#[{on:=3,ground:=Ground.data},{on:=0,ground:=Ground.phase},{on:=1,ground:=Ground.phase},{on:=2,ground:=Ground.phase},{on:=3,ground:=Ground.phase},{on:=4,ground:=Ground.phase}],guard:=none}:Oper)) (v:=?_) rfl (by kernel_rfl) (by kernel_rfl) (by kernel_rfl) (fun _ _ _ h=>h) (Or.inl ⟨by rfl,?_⟩) (by assumption) ?_;rotate_left
   ·(intro w bA;(try dsimp only at bA);go_simp;try with_reducible rfl)
   try simp only[Act.put,List.setIfInBounds_toArray,List.set_cons_zero,List.set_cons_succ]
   refine wpAnyH_ready (rs:=[6]) (by kernel_rfl) (by simp) ?_;refine AllReadyH.cons (o:=({dst:=none,op:=Op.store 61 (Operand.tmp 29) (Operand.tmp 28),type:=0,pos:= "l02_tree.go:185",after:=#[{on:=5,ground:=Ground.data},{on:=4,ground:=Ground.data},{on:=0,ground:=Ground.phase},{on:=1,ground:=Ground.phase},{on:=2,ground:=Ground.phase},{on:=3,ground:=Ground.phase},{on:=4,ground:=Ground.phase}],guard:=none}:Oper)) rfl (fun K hK=>?_) AllReadyH.nil;go_simp
   (try go_wp2_with fail)
   refine hK.out _ _ ?_ (fun aA=>?_)
   ·(try dsimp only)
    exact vA.out _ _ _ rfl
   clear hK K hHeld;have hHeld:=aA;clear aA
   try simp only[Act.put,List.setIfInBounds_toArray,List.set_cons_zero,List.set_cons_succ]
   refine wpAnyH_done (by kernel_rfl) ?_ _;have hT:zF (fun k=>k=wr.heap.size) wA ((wA.setCell ⟨wr.heap.size,plc n L*2,none⟩ (.int .i64 (layS p xs xb n b ⟨q,x,y,0⟩ k).ps)).setCell ⟨wr.heap.size,plc n L*2+1,none⟩ (.int .i64 (layS p xs xb n b ⟨q,x,y,0⟩ k).pb)).drew:=by
    have h:zF (fun k=>k=wr.heap.size) wA ((wA.setCell ⟨wr.heap.size,plc n L*2,none⟩ (.int .i64 (layS p xs xb n b ⟨q,x,y,0⟩ k).ps)).setCell ⟨wr.heap.size,plc n L*2+1,none⟩ (.int .i64 (layS p xs xb n b ⟨q,x,y,0⟩ k).pb)):=((zF.refl (fun k=>k=wr.heap.size) wA).setCell (p:=⟨wr.heap.size,plc n L*2,none⟩) rfl _).setCell (p:=⟨wr.heap.size,plc n L*2+1,none⟩) rfl _;exact⟨h.os,h.tape,h.output,h.size,h.block⟩
   have fB:Hid (((wA.setCell ⟨wr.heap.size,plc n L*2,none⟩ (.int .i64 (layS p xs xb n b ⟨q,x,y,0⟩ k).ps)).setCell ⟨wr.heap.size,plc n L*2+1,none⟩ (.int .i64 (layS p xs xb n b ⟨q,x,y,0⟩ k).pb)).drew.heap[wr.heap.size]?=some (.cells (zp (mix (zBV p xs xb n L (layS p xs xb n b ⟨q,x,y,0⟩ k).ps) (zBP p xs xb n L (layS p xs xb n b ⟨q,x,y,0⟩ k).pb))) 155 (0,0))):=by
    have:=zAY (o:=plc n L*2+1) (.int .i64 (layS p xs xb n b ⟨q,x,y,0⟩ k).pb) (zAY (o:=plc n L*2) (.int .i64 (layS p xs xb n b ⟨q,x,y,0⟩ k).ps) bC.out);rw[zJe _ _ tD,zQO p xs xb n L _ _ hn]at this;exact this
   have sC:=nC.out;have gB:=zE (jB.out.same (hT.same (lo:=0) (hi:=wr.heap.size) (by omega) (by intro k hk;omega)));have mA:=zE (eB.out.zRf hT (by omega));have cB:=zE (pA.out.zRf hT (by omega));have lB:=zE (nA.out.zRf hT (by omega));have kB:=zE (mB.out.zRf hT (by omega));have dB:=oA.trans (hT.zRX (B:=w.heap.size) oA.size (by intro k hk;omega));have fE:=Nat.lt_of_lt_of_le sC hT.size;clear hT sC jB eB pA nA mB oA bC nC vA y0 y1 y2 y3 z0 c0 c1 c2 c3;generalize ((wA.setCell ⟨wr.heap.size,plc n L*2,none⟩ (.int .i64 (layS p xs xb n b ⟨q,x,y,0⟩ k).ps)).setCell ⟨wr.heap.size,plc n L*2+1,none⟩ (.int .i64 (layS p xs xb n b ⟨q,x,y,0⟩ k).pb)).drew=wB at fB gB mA cB lB kB dB fE ⊢;have sB:Hid ((Tryz.prog.info? 155).map (·.size)=some (zp (mix (zBV p xs xb n L (layS p xs xb n b ⟨q,x,y,0⟩ k).ps) (zBP p xs xb n L (layS p xs xb n b ⟨q,x,y,0⟩ k).pb))).size):=by
    show _=_;rw[qB];exact zB4
   obtain⟨⟨x0,x1⟩,⟨x2,x3⟩⟩:=mA.out;go_wp2_with (first
    | (refine wpList_load_row rfl 155 (.tmp 12) rfl wr.heap.size rfl 155 (zp (mix (zBV p xs xb n L (layS p xs xb n b ⟨q,x,y,0⟩ k).ps) (zBP p xs xb n L (layS p xs xb n b ⟨q,x,y,0⟩ k).pb))) (0,0) _ fB.out zHQ rfl sB.out ?_)
    | fail)
   refine(zKV _ _ 0 wr.heap.size (layS p xs xb n b ⟨q,x,y,0⟩ k).zRd _ _ b wB gB.out (by have h1:=lE.out;have h2:=Hq.out;have h3:qC (zDr.mk q x y 0).zRd=qC q:=rfl;omega)).mono ?_;rintro e wC ⟨t0,t1,rfl,lC,cD⟩;have aB:Hid (layS p xs xb n b ⟨q,x,y,0⟩ (k+1)=zFF (layS p xs xb n b ⟨q,x,y,0⟩ k).zRd (zBV p xs xb n L (layS p xs xb n b ⟨q,x,y,0⟩ k).ps) (zBP p xs xb n L (layS p xs xb n b ⟨q,x,y,0⟩ k).pb) b):=nE.out;generalize zFF (layS p xs xb n b ⟨q,x,y,0⟩ k).zRd (zBV p xs xb n L (layS p xs xb n b ⟨q,x,y,0⟩ k).ps) (zBP p xs xb n L (layS p xs xb n b ⟨q,x,y,0⟩ k).pb) b=od at lC aB ⊢;obtain⟨ta,tc,cA,dA,rfl,rfl⟩:=lC.form;have bB:=zC wC (.cells #[.slice ta od.zRd.n tc,.slice cA od.zRd.hn dA,.int .i64 od.ps,.int .i64 od.pb,.int .i64 od.code] 151);have pB:=zA cD bB;have iC:=zE (lC.zRX bB);have eC:=zE (zDk.zRZ wC (.slice ta od.zRd.n tc) (.slice cA od.zRd.hn dA) (.int .i64 od.ps) (.int .i64 od.pb) (.int .i64 od.code) 151);have sA:=zE (mA.out.zRX pB);have rA:=zE (cB.out.zRX pB);have iB:=zE (lB.out.zRX pB);have kA:=zE (kB.out.zRX pB);have gA:=zA dB pB;have dE:=cD.size;have nB:wC.heap.size<(wC.alloc (.cells #[.slice ta od.zRd.n tc,.slice cA od.zRd.hn dA,.int .i64 od.ps,.int .i64 od.pb,.int .i64 od.code] 151)).heap.size:=(by rw[World.size_alloc];omega);clear lC cD bB pB x0 x1 x2 x3 fB gB mA cB lB kB dB;go_upto_region 9 with fail;generalize wC.alloc (.cells #[.slice ta od.zRd.n tc,.slice cA od.zRd.hn dA,.int .i64 od.ps,.int .i64 od.pb,.int .i64 od.code] 151)=wD at iC eC sA rA iB kA gA nB ⊢;generalize wC.heap.size=T at iC eC dE nB ⊢;obtain⟨⟨t0,t1⟩,⟨t2,t3⟩,⟨t4,t5⟩,⟨t6,t7⟩,⟨t8,t9⟩⟩:=eC.out;by_cases hc:od.code=0
   ·have vD:(od.code != 0)=false:=(by simp[hc]);have Hc:=zE hc;clear hc;go_upto_region 11 with fail;obtain⟨⟨x0,x1⟩,⟨x2,x3⟩⟩:=sA.out;obtain⟨⟨y0,y1⟩,⟨y2,y3⟩⟩:=rA.out;have rE:w.heap.size≠w.heap.size+4:=(by omega);have eA:Hid (∀(u v:Value) (w5:World),w5=((wD.drew.setCell ⟨w.heap.size,0,none⟩ u).setCell ⟨w.heap.size,1,none⟩ v)->(w5.cell? ⟨T,0,none⟩=some (.slice ta od.zRd.n tc)/\w5.cell? ⟨T,1,none⟩=some (.slice cA od.zRd.hn dA)/\w5.cell? ⟨T,2,none⟩=some (.int .i64 od.ps)/\w5.cell? ⟨T,3,none⟩=some (.int .i64 od.pb))):=by
     intro u v w5 e5;have iD:T<wD.drew.heap.size:=nB;have h:=fun o=>(yQ wD.drew w.heap.size u v).cell (b:=T) (o:=o) iD (by omega)
     rw[e5,h,h,h,h];exact⟨t0,t2,t4,t6⟩
    have lA:Hid (∀(u v u' v':Value) (w5:World),w5=((((wD.drew.setCell ⟨w.heap.size,0,none⟩ u).setCell ⟨w.heap.size,1,none⟩ v).setCell ⟨w.heap.size+4,0,none⟩ u').setCell ⟨w.heap.size+4,1,none⟩ v')->(w5.cell? ⟨T,0,none⟩=some (.slice ta od.zRd.n tc)/\w5.cell? ⟨T,1,none⟩=some (.slice cA od.zRd.hn dA)/\w5.cell? ⟨T,2,none⟩=some (.int .i64 od.ps)/\w5.cell? ⟨T,3,none⟩=some (.int .i64 od.pb))):=by
     intro u v u' v' w5 e5;have iD:T<wD.drew.heap.size:=nB;have h1:=fun o=>(yQ ((wD.drew.setCell ⟨w.heap.size,0,none⟩ u).setCell ⟨w.heap.size,1,none⟩ v) (w.heap.size+4) u' v').cell (b:=T) (o:=o) (by simp;exact nB) (by omega)
     rw[e5,h1,h1,h1,h1];exact eA.out u v _ rfl
    refine wp_region_held_drew (S:=(fun w'=>w'.cell? ⟨T,0,none⟩=some (.slice ta od.zRd.n tc)/\w'.cell? ⟨T,1,none⟩=some (.slice cA od.zRd.hn dA)/\w'.cell? ⟨T,2,none⟩=some (.int .i64 od.ps)/\w'.cell? ⟨T,3,none⟩=some (.int .i64 od.pb))) (by kernel_rfl) ?_ (fun hHeld=>?_)
    ·(try dsimp only)
     go_keep
    refine wpAnyH_take (i:=0) (oi:=({dst:=some 40,op:=Op.fieldAddr 151 (Operand.tmp 13) 0,type:=0,pos:= "l02_tree.go:190",after:=#[],guard:=none}:Oper)) (v:=?_) rfl (by kernel_rfl) (by kernel_rfl) (by kernel_rfl) (fun _ _ _ h=>h) (Or.inl ⟨by rfl,?_⟩) (by assumption) ?_;rotate_left
    ·(intro w bA;(try dsimp only at bA);go_simp;try with_reducible rfl)
    try simp only[Act.put,List.setIfInBounds_toArray,List.set_cons_zero,List.set_cons_succ]
    refine wpAnyH_take (i:=2) (oi:=({dst:=some 42,op:=Op.fieldAddr 151 (Operand.tmp 13) 1,type:=0,pos:= "l02_tree.go:190",after:=#[{on:=4,ground:=Ground.gcOnly Departure.lateStores}],guard:=none}:Oper)) (v:=?_) rfl (by kernel_rfl) (by kernel_rfl) (by kernel_rfl) (fun _ _ _ h=>h) (Or.inl ⟨by rfl,?_⟩) (by assumption) ?_;rotate_left
    ·(intro w bA;(try dsimp only at bA);go_simp;try with_reducible rfl)
    try simp only[Act.put,List.setIfInBounds_toArray,List.set_cons_zero,List.set_cons_succ]
    refine wpAnyH_take (i:=1) (oi:=({dst:=some 41,op:=Op.load 33 (Operand.tmp 40),type:=33,pos:= "l02_tree.go:190",after:=#[{on:=0,ground:=Ground.data}],guard:=none}:Oper)) (v:=?_) rfl (by kernel_rfl) (by kernel_rfl) (by kernel_rfl) (fun _ _ _ h=>h) (Or.inl ⟨by rfl,?_⟩) (by assumption) ?_;rotate_left
    ·(intro w bA;(try dsimp only at bA);go_simp;try with_reducible rfl)
    try simp only[Act.put,List.setIfInBounds_toArray,List.set_cons_zero,List.set_cons_succ]
    refine wpAnyH_take (i:=3) (oi:=({dst:=some 43,op:=Op.load 61 (Operand.tmp 42),type:=61,pos:= "l02_tree.go:190",after:=#[{on:=2,ground:=Ground.data},{on:=4,ground:=Ground.gcOnly Departure.lateStores}],guard:=none}:Oper)) (v:=?_) rfl (by kernel_rfl) (by kernel_rfl) (by kernel_rfl) (fun _ _ _ h=>h) (Or.inl ⟨by rfl,?_⟩) (by assumption) ?_;rotate_left
    ·(intro w bA;(try dsimp only at bA);go_simp;try with_reducible rfl)
    try simp only[Act.put,List.setIfInBounds_toArray,List.set_cons_zero,List.set_cons_succ]
    refine wpAnyH_ready (rs:=[4]) (by kernel_rfl) (by simp) ?_;refine AllReadyH.cons (o:=({dst:=none,op:=Op.store 33 (Operand.tmp 4) (Operand.tmp 41),type:=0,pos:= "l02_tree.go:190",after:=#[{on:=1,ground:=Ground.data},{on:=0,ground:=Ground.phase},{on:=1,ground:=Ground.phase},{on:=2,ground:=Ground.textOnly Departure.lateStores},{on:=3,ground:=Ground.textOnly Departure.lateStores}],guard:=none}:Oper)) rfl (fun K hK=>?_) AllReadyH.nil;go_simp
    (try go_wp2_with fail)
    refine hK.out _ _ ?_ (fun aA=>?_)
    ·(try dsimp only)
     exact eA.out _ _ _ rfl
    clear hK K hHeld;have hHeld:=aA;clear aA
    try simp only[Act.put,List.setIfInBounds_toArray,List.set_cons_zero,List.set_cons_succ]
    refine wpAnyH_ready (rs:=[5]) (by kernel_rfl) (by simp) ?_;refine AllReadyH.cons (o:=({dst:=none,op:=Op.store 61 (Operand.tmp 9) (Operand.tmp 43),type:=0,pos:= "l02_tree.go:190",after:=#[{on:=3,ground:=Ground.data},{on:=4,ground:=Ground.chain},{on:=0,ground:=Ground.phase},{on:=1,ground:=Ground.phase},{on:=2,ground:=Ground.phase},{on:=3,ground:=Ground.phase},{on:=4,ground:=Ground.phase}],guard:=none}:Oper)) rfl (fun K hK=>?_) AllReadyH.nil;go_simp
    (try go_wp2_with fail)
    refine hK.out _ _ ?_ (fun aA=>?_)
    ·(try dsimp only)
     exact lA.out _ _ _ _ _ rfl
    clear hK K hHeld;have hHeld:=aA;clear aA
    try simp only[Act.put,List.setIfInBounds_toArray,List.set_cons_zero,List.set_cons_succ]
    refine wpAnyH_done (by kernel_rfl) ?_ _;have oB:zF (fun k=>k=w.heap.size\/k=w.heap.size+4) wD ((((wD.setCell ⟨w.heap.size,0,none⟩ (.slice ta od.zRd.n tc)).setCell ⟨w.heap.size,1,none⟩ (.slice cA od.zRd.hn dA)).setCell ⟨w.heap.size+4,0,none⟩ (.int .i64 od.ps)).setCell ⟨w.heap.size+4,1,none⟩ (.int .i64 od.pb)).drew:=by
     have h:=((yQ wD w.heap.size (.slice ta od.zRd.n tc) (.slice cA od.zRd.hn dA)).mono (T:=fun k=>k=w.heap.size\/k=w.heap.size+4) (fun k hk=>Or.inl hk)).trans ((yQ ((wD.setCell ⟨w.heap.size,0,none⟩ (.slice ta od.zRd.n tc)).setCell ⟨w.heap.size,1,none⟩ (.slice cA od.zRd.hn dA)) (w.heap.size+4) (.int .i64 od.ps) (.int .i64 od.pb)).mono (T:=fun k=>k=w.heap.size\/k=w.heap.size+4) (fun k hk=>Or.inr hk));exact⟨h.os,h.tape,h.output,h.size,h.block⟩
    have aC:Hid (zc ((((wD.setCell ⟨w.heap.size,0,none⟩ (.slice ta od.zRd.n tc)).setCell ⟨w.heap.size,1,none⟩ (.slice cA od.zRd.hn dA)).setCell ⟨w.heap.size+4,0,none⟩ (.int .i64 od.ps)).setCell ⟨w.heap.size+4,1,none⟩ (.int .i64 od.pb)).drew w.heap.size (.slice ta od.zRd.n tc) (.slice cA od.zRd.hn dA)):=by
     have eD:=yQ ((wD.setCell ⟨w.heap.size,0,none⟩ (.slice ta od.zRd.n tc)).setCell ⟨w.heap.size,1,none⟩ (.slice cA od.zRd.hn dA)) (w.heap.size+4) (.int .i64 od.ps) (.int .i64 od.pb);have pC:=(sA.out.put (.slice ta od.zRd.n tc) (.slice cA od.zRd.hn dA)).zRf eD (by omega);exact pC
    have dC:Hid (zc ((((wD.setCell ⟨w.heap.size,0,none⟩ (.slice ta od.zRd.n tc)).setCell ⟨w.heap.size,1,none⟩ (.slice cA od.zRd.hn dA)).setCell ⟨w.heap.size+4,0,none⟩ (.int .i64 od.ps)).setCell ⟨w.heap.size+4,1,none⟩ (.int .i64 od.pb)).drew (w.heap.size+4) (.int .i64 od.ps) (.int .i64 od.pb)):=by
     have eD:=yQ wD w.heap.size (.slice ta od.zRd.n tc) (.slice cA od.zRd.hn dA);have pC:=(rA.out.zRf eD (by omega)).put (.int .i64 od.ps) (.int .i64 od.pb);exact pC
    have dD:=zE ((iC.out.zRf oB (fun k hk=>by rcases hk with h | h<;>omega)).zRc (lo':=w.heap.size+5) (hi':=T) (by omega) (Nat.le_refl _));have tB:=zE (iB.out.zRf oB (by omega));have rB:=zE (kA.out.zRf oB (by omega));have cC:=gA.trans (oB.zRX (B:=w.heap.size) gA.size (fun k hk=>by rcases hk with h | h<;>omega));have eE:=Nat.lt_of_lt_of_le nB oB.size;clear oB sA rA iC iB kA gA eA lA eC t0 t1 t2 t3 t4 t5 t6 t7 t8 t9 x0 x1 x2 x3 y0 y1 y2 y3;generalize ((((wD.setCell ⟨w.heap.size,0,none⟩ (.slice ta od.zRd.n tc)).setCell ⟨w.heap.size,1,none⟩ (.slice cA od.zRd.hn dA)).setCell ⟨w.heap.size+4,0,none⟩ (.int .i64 od.ps)).setCell ⟨w.heap.size+4,1,none⟩ (.int .i64 od.pb)).drew=wE at aC dC dD tB rB cC eE ⊢;go_wp2;go_roundw
    case rel=>
     refine⟨k+1,by omega,by go_num,fun j hj=>?_,.slice ta od.zRd.n tc,.slice cA od.zRd.hn dA,aC.out,?_,fun _=>?_,?_,tB.out,rB.out,by omega,cC⟩
     ·by_cases e:j=k+1
      ·rw[e,aB.out];exact Hc.out
      ·exact jA.out j (by omega)
     ·rw[aB.out];exact dD.out.at.all
     ·rw[aB.out];exact dD.out.zRc (Nat.le_refl _) (by omega)
     ·rw[aB.out];exact dC.out
    case measure=>simp[intOf];omega
   ·have vD:(od.code != 0)=true:=(by simp[hc]);have Hc:=zE hc;clear hc;obtain⟨⟨r0,r1⟩,⟨r2,r3⟩,⟨r4,r5⟩,⟨r6,r7⟩,⟨r8,r9⟩,⟨iE,gE⟩⟩:=kA.out;go_wp2;have iA:=kA.out.put (.slice none 0 0) (.slice none 0 0) (.int .i64 0) (.int .i64 0) (.slice none 0 0) (.int .i64 od.code);have vB:=zF.put6 wD (w.heap.size+1+1+1) (.slice none 0 0) (.slice none 0 0) (.int .i64 0) (.int .i64 0) (.slice none 0 0) (.int .i64 od.code);have bD:=zKF kE jA.out (by rw[aB.out];exact Hc.out);rw[aB.out]at bD;refine bodyPost_ret (v:=.agg #[.slice none 0 0,.slice none 0 0,.int .i64 0,.int .i64 0,.slice none 0 0,.int .i64 od.code]) (by simp[results,Tryz.results101,go_sem,iA.1.1,iA.2.1.1,iA.2.2.1.1,iA.2.2.2.1.1,iA.2.2.2.2.1.1,iA.2.2.2.2.2.1]) rfl (Or.inl ⟨?_,?_,?_⟩)
    ·rw[bD];exact Hc.out
    ·rw[bD];rfl
    ·exact gA.trans (vB.zRX (B:=w.heap.size) gA.size (by intro k hk;omega))
  ·obtain rfl:k=2:=(by omega);obtain⟨oa,oc,ho,_⟩:=zY Hr.out;have Ho:=zE ho;obtain⟨bE,_⟩:=mC.out 40 (by omega);rw[zPO,ho]at bE;clear ho;obtain⟨⟨r0,r1⟩,⟨r2,r3⟩,⟨r4,r5⟩,⟨r6,r7⟩,⟨r8,r9⟩,⟨iE,gE⟩⟩:=jC.out;go_wp2;have iA:=jC.out.put (.slice ra (layS p xs xb n b ⟨q,x,y,0⟩ 2).zRd.n rc) (.slice gC (layS p xs xb n b ⟨q,x,y,0⟩ 2).zRd.hn kC) (.int .i64 (layS p xs xb n b ⟨q,x,y,0⟩ 2).ps) (.int .i64 (layS p xs xb n b ⟨q,x,y,0⟩ 2).pb) (.slice oa (yg p xs xb n 3).length oc) (.int .i64 0);have vB:=zF.put6 wr (w.heap.size+1+1+1) (.slice ra (layS p xs xb n b ⟨q,x,y,0⟩ 2).zRd.n rc) (.slice gC (layS p xs xb n b ⟨q,x,y,0⟩ 2).zRd.hn kC) (.int .i64 (layS p xs xb n b ⟨q,x,y,0⟩ 2).ps) (.int .i64 (layS p xs xb n b ⟨q,x,y,0⟩ 2).pb) (.slice oa (yg p xs xb n 3).length oc) (.int .i64 0);refine bodyPost_ret (v:=.agg #[.slice ra (layS p xs xb n b ⟨q,x,y,0⟩ 2).zRd.n rc,.slice gC (layS p xs xb n b ⟨q,x,y,0⟩ 2).zRd.hn kC,.int .i64 (layS p xs xb n b ⟨q,x,y,0⟩ 2).ps,.int .i64 (layS p xs xb n b ⟨q,x,y,0⟩ 2).pb,.slice oa (yg p xs xb n 3).length oc,.int .i64 0]) (by simp[results,Tryz.results101,go_sem,iA.1.1,iA.2.1.1,iA.2.2.1.1,iA.2.2.2.1.1,iA.2.2.2.2.1.1,iA.2.2.2.2.2.1]) rfl (Or.inr ⟨?_,.slice ra (layS p xs xb n b ⟨q,x,y,0⟩ 2).zRd.n rc,.slice gC (layS p xs xb n b ⟨q,x,y,0⟩ 2).zRd.hn kC,?_,?_,?_⟩)
   ·rw[zL2 jA.out]
   ·rw[<-Ho.out]
   ·exact((kD.out (by omega)).zRf vB (by intro k hk;omega)).zRc (by omega) (by exact vB.size)
   ·exact fC.trans (vB.zRX (B:=w.heap.size) fC.size (by intro k hk;omega))
theorem zGO(v0 v1:Value)(lo hi:Nat)(p:zI)(xs xb:Int)(w:World)(h1:zu w lo hi v0 v1 p) :
  Calls Tryz.prog 97 #[.agg #[v0,v1],.agg #[.int .i64 xs,.int .i64 xb]] w fun e w'=>zG (qp p xs xb) e/\Below w.heap.size w w':=by
 have Hp:=zE h1;obtain⟨a,c,a',c',rfl,rfl⟩:∃a c a' c',v0 = .slice a p.n c/\v1 = .slice a' p.hn c':=by
  obtain⟨⟨_,a,c,h1,_⟩,⟨_,a',c',h3,_⟩⟩:=h1;exact⟨a,c,a',c',h1,h3⟩
 clear h1;have fA:=zB2 w (.slice a p.n c) (.slice a' p.hn c') (.int .i64 xs) (.int .i64 xb) 33 61;go_enter Tryz.func97,Tryz.ntmps97;go_wp2_with fail;generalize (w.alloc (.cells #[.slice a p.n c,.slice a' p.hn c'] 33)).alloc (.cells #[.int .i64 xs,.int .i64 xb] 61)=W at fA ⊢;obtain⟨hB,hX,bA,hz⟩:=fA;refine(yw _ _ lo hi p _ (Hp.out.zRX bA)).mono ?_;rintro e w1 ⟨⟨t,rfl,ht⟩,aA⟩;have jA:=zE (hB.zRX aA);have iA:=zE (hX.zRX aA);have cA:=zA bA aA;clear hB hX bA aA;by_cases hR:zx p
 ·obtain rfl:t=true:=ht.2 hR;have HR:=zE hR;clear ht hR;obtain⟨⟨x0,x1⟩,⟨x2,x3⟩⟩:=jA.out;obtain⟨⟨y0,y1⟩,⟨y2,y3⟩⟩:=iA.out;go_wp2_with fail;refine(zFK _ _ lo hi p xs xb _ (Hp.out.zRX cA) HR.out).mono ?_;rintro e w2 ⟨⟨t2,rfl,eA⟩,dA⟩;have HT:=zE eA;have gA:=zA cA dA;clear eA dA x0 x1 x2 x3 y0 y1 y2 y3;go_wp2;go_ret;exact⟨⟨t2,rfl,HT.out.trans ((zF5 HR.out).trans ⟨fun h=>⟨HR.out,h⟩,fun h=>h.2⟩)⟩,gA⟩
 ·obtain rfl:t=false:=zQ ht hR;have HR:=zE hR;clear ht hR;go_wp2;go_ret;exact⟨zG.no fun h=>HR.out h.1,cA⟩
def zCJ(n:Int):Prop:=0<=n/\n<=63
theorem zDI(n:Int)(w:World):Calls Tryz.prog 80 #[.int .i64 n] w fun e w'=>zG (zCJ n) e/\w'=w:=by
 by_cases h1:0<=n
 ·by_cases h2:n<=63
  ·go_enter Tryz.func80,Tryz.ntmps80;go_wp2;go_ret;exact⟨zG.yes ⟨h1,h2⟩,rfl⟩
  ·go_enter Tryz.func80,Tryz.ntmps80;go_wp2;go_ret;exact⟨zG.no fun h=>by have:=h.2;omega,rfl⟩
 ·go_enter Tryz.func80,Tryz.ntmps80;go_wp2;go_ret;exact⟨zG.no fun h=>by have:=h.1;omega,rfl⟩
theorem zCn(n:Int)(w:World):Calls Tryz.prog 99 #[.int .i64 n] w fun e w'=>zG (zCJ n) e/\w'=w:=by
 by_cases h1:0<=n
 ·by_cases h2:n<64
  ·go_enter Tryz.func99,Tryz.ntmps99;go_wp2;go_ret;exact⟨zG.yes ⟨h1,by omega⟩,rfl⟩
  ·go_enter Tryz.func99,Tryz.ntmps99;go_wp2;go_ret;exact⟨zG.no fun h=>by have:=h.2;omega,rfl⟩
 ·go_enter Tryz.func99,Tryz.ntmps99;go_wp2;go_ret;exact⟨zG.no fun h=>by have:=h.1;omega,rfl⟩
end Go.Proofs.YtmgeglgboadfiaaGreatDoor
