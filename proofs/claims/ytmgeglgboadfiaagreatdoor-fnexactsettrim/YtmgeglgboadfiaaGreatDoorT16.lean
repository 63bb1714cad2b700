/- What impl.wayTo answers. -/
import Derived.Test.YtmgeglgboadfiaaGreatDoorT15
set_option linter.unusedVariables false
set_option maxRecDepth 20000
set_option maxHeartbeats 4000000
namespace Go.Proofs.YtmgeglgboadfiaaGreatDoor
open Go.RowKit
theorem zDQ{v:Value}{xs xb:Int}{n z B X L:Nat}(a:Act)(h:a = {tmps:=#[v,.agg #[.int .i64 xs,.int .i64 xb],.int .i64 (n:Int),a.tmps.getD 3 undef,.pointer (some ⟨z,0,none⟩),a.tmps.getD 5 undef,.pointer (some ⟨z+1,0,none⟩),.pointer (some ⟨B,0,none⟩),.pointer (some ⟨X,0,none⟩),.int .i64 (L:Int),a.tmps.getD 10 undef,a.tmps.getD 11 undef,a.tmps.getD 12 undef,a.tmps.getD 13 undef,a.tmps.getD 14 undef,a.tmps.getD 15 undef,a.tmps.getD 16 undef,a.tmps.getD 17 undef,a.tmps.getD 18 undef,a.tmps.getD 19 undef,a.tmps.getD 20 undef,a.tmps.getD 21 undef,a.tmps.getD 22 undef,a.tmps.getD 23 undef,a.tmps.getD 24 undef,a.tmps.getD 25 undef,a.tmps.getD 26 undef,a.tmps.getD 27 undef,a.tmps.getD 28 undef,a.tmps.getD 29 undef,a.tmps.getD 30 undef,a.tmps.getD 31 undef,a.tmps.getD 32 undef,a.tmps.getD 33 undef,a.tmps.getD 34 undef,a.tmps.getD 35 undef,a.tmps.getD 36 undef,a.tmps.getD 37 undef,a.tmps.getD 38 undef,a.tmps.getD 39 undef,a.tmps.getD 40 undef,a.tmps.getD 41 undef,a.tmps.getD 42 undef,a.tmps.getD 43 undef,a.tmps.getD 44 undef,a.tmps.getD 45 undef,a.tmps.getD 46 undef,a.tmps.getD 47 undef,a.tmps.getD 48 undef,a.tmps.getD 49 undef,a.tmps.getD 50 undef,a.tmps.getD 51 undef,a.tmps.getD 52 undef,a.tmps.getD 53 undef,a.tmps.getD 54 undef,a.tmps.getD 55 undef,a.tmps.getD 56 undef,a.tmps.getD 57 undef,a.tmps.getD 58 undef,a.tmps.getD 59 undef,a.tmps.getD 60 undef,a.tmps.getD 61 undef,a.tmps.getD 62 undef,a.tmps.getD 63 undef,a.tmps.getD 64 undef,a.tmps.getD 65 undef,a.tmps.getD 66 undef,a.tmps.getD 67 undef],defers:=[]}):∃j:Nat->Value,a = {tmps:=#[v,.agg #[.int .i64 xs,.int .i64 xb],.int .i64 (n:Int),j 3,.pointer (some ⟨z,0,none⟩),j 5,.pointer (some ⟨z+1,0,none⟩),.pointer (some ⟨B,0,none⟩),.pointer (some ⟨X,0,none⟩),.int .i64 (L:Int),j 10,j 11,j 12,j 13,j 14,j 15,j 16,j 17,j 18,j 19,j 20,j 21,j 22,j 23,j 24,j 25,j 26,j 27,j 28,j 29,j 30,j 31,j 32,j 33,j 34,j 35,j 36,j 37,j 38,j 39,j 40,j 41,j 42,j 43,j 44,j 45,j 46,j 47,j 48,j 49,j 50,j 51,j 52,j 53,j 54,j 55,j 56,j 57,j 58,j 59,j 60,j 61,j 62,j 63,j 64,j 65,j 66,j 67],defers:=[]}:=⟨fun i=>a.tmps.getD i undef,h⟩
def zRH(p:zJ)(v:Value)(xs xb:Int)(n:Nat)(w0:World)(z:Nat)(k l:Nat)(a:Act)(w:World):Prop:=
  ∃B X L:Nat,(∃j:Nat->Value,a = {tmps:=#[v,.agg #[.int .i64 xs,.int .i64 xb],.int .i64 (n:Int),j 3,.pointer (some ⟨z,0,none⟩),j 5,.pointer (some ⟨z+1,0,none⟩),.pointer (some ⟨B,0,none⟩),.pointer (some ⟨X,0,none⟩),.int .i64 (L:Int),j 10,j 11,j 12,j 13,j 14,j 15,j 16,j 17,j 18,j 19,j 20,j 21,j 22,j 23,j 24,j 25,j 26,j 27,j 28,j 29,j 30,j 31,j 32,j 33,j 34,j 35,j 36,j 37,j 38,j 39,j 40,j 41,j 42,j 43,j 44,j 45,j 46,j 47,j 48,j 49,j 50,j 51,j 52,j 53,j 54,j 55,j 56,j 57,j 58,j 59,j 60,j 61,j 62,j 63,j 64,j 65,j 66,j 67],defers:=[]})/\L<3/\z+1<B/\B<X/\X<w.heap.size/\Below z w0 w/\w.heap[z+1]?=some (.cells zNr 159 (0,0))/\
    ((l=0/\7<=k+L/\yO w B (yJ p xs xb n L L (.slice none 0 0))/\zc w X (.int .i64 (qq p xs xb n L)) (.int .i64 (yR p xs xb n L)))\/
     (l=1/\L<k/\∃o,yO w B (yJ p xs xb n 2 3 o)/\zw w (X+1) o (qf p xs xb n (2 - L))))
theorem zDt(B:Nat):∀(vs:List Value) (o:Nat) (w:World),zF (fun k=>k=B) w (w.setCells B o vs)
  | [],_,w=>zF.refl _ w
  | v :: vs,o,w=>((zF.refl (fun k=>k=B) w).setCell (p:=⟨B,o,none⟩) rfl v).trans (zDt B vs (o+1) _)
theorem zH1(p:zJ)(xs xb:Int)(n K M:Nat)(o:Value){L:Nat}(hL:L<2):yJ p xs xb n K M o L = .int .i64 (plc n L:Nat):=by
  unfold yJ;rw[if_pos hL]
theorem zLO(p:zJ)(xs xb:Int)(n M:Nat)(o:Value){L j:Nat}(hL:L<2)(hj:j<16):yJ p xs xb n (L+1) M o (2+L*16+j) = .int .i64 (zB8 p xs xb n L j):=by
  unfold yJ;rw[if_neg (by omega),if_pos (by omega),show(2+L*16+j - 2) / 16=L by omega,show(2+L*16+j - 2) % 16=j by omega,if_pos (by omega)]
theorem zMG(p:zJ)(xs xb:Int)(n K:Nat)(o:Value){L:Nat}(hL:L<3):yJ p xs xb n K 3 o (34+L*2) = .int .i64 (qq p xs xb n L)/\yJ p xs xb n K 3 o (34+L*2+1) = .int .i64 (yR p xs xb n L):=by
  refine⟨?_,?_⟩
  · unfold yJ
    rw[if_neg (by omega),if_neg (by omega),if_pos (by omega),show(34+L*2 - 34) / 2=L by omega,show(34+L*2 - 34) % 2=0 by omega,if_pos (by omega),if_pos rfl]
  · unfold yJ
    rw[if_neg (by omega),if_neg (by omega),if_pos (by omega),show(34+L*2+1 - 34) / 2=L by omega,show(34+L*2+1 - 34) % 2=1 by omega,if_pos (by omega),if_neg (by omega)]
theorem zPC(p:zJ)(xs xb:Int)(n K M:Nat)(o:Value):yJ p xs xb n K M o 40=o:=rfl
theorem zPB{p:zJ}{xs xb:Int}{n L:Nat}(hN:L<2->Nil (qq p xs xb n L) (yR p xs xb n L))(hL:L<3):qf p xs xb n (2 - L) = []:=by
  unfold qf;rcases L with _ | _ | L
  · have h0:=hN (by omega)
    have h1:=zEn h0 (by omega);have h2:=zEn h1 (by omega);show([] ++ one (qq p xs xb n 2) (yR p xs xb n 2)) ++ one (qq p xs xb n 1) (yR p xs xb n 1) = [];unfold one;rw[if_pos h2,if_pos h1];rfl
  · have h0:=hN (by omega)
    have h1:=zEn h0 (by omega);show [] ++ one (qq p xs xb n 2) (yR p xs xb n 2) = [];unfold one;rw[if_pos h1];rfl
  · obtain rfl:L=0:=by omega
    rfl
theorem zLR(p:zJ)(xs xb:Int)(n:Nat){L:Nat}(hL:L<3):qf p xs xb n (2 - L+1)=qf p xs xb n (2 - L) ++ one (qq p xs xb n L) (yR p xs xb n L):=by
  show qf p xs xb n (2 - L) ++ one (qq p xs xb n (2 - (2 - L))) (yR p xs xb n (2 - (2 - L)))=_;rw[show 2 - (2 - L)=L by omega]
theorem zMV(p:zJ)(xs xb:Int)(n k:Nat):(qf p xs xb n k).length<=k:=zAg _ _ k
theorem zIc(p:zJ)(xs xb:Int)(n K M:Nat){o:Value}(ho:o.oneCell'=true):(zAT (yJ p xs xb n K M o)).all (·.oneCell')=true:=by
  unfold zAT;rw[Array.all_eq_true_iff_forall_mem];intro v hv;simp at hv;obtain⟨i,_,rfl⟩:=hv;unfold yJ;split
  · rfl
  split
  · rfl
  split
  · rfl
  · exact ho
theorem zw.one{w:World}{base:Nat}{v:Value}{l:List (Int×Int)}(h:zw w base v l):v.oneCell'=true:=by
  obtain⟨a,c,rfl,_⟩:=zW h;rfl
theorem zw.setRow{w:World}{base g:Nat}{v:Value}{l:List (Int×Int)}(h:zw w base v l)(hb:g<base)(cs:Array Value):zw (w.setRow g cs) base v l:=by
  have t:=zF.setRow w g cs;exact h.zRR (row:=some g) ⟨t.os,t.tape,t.output,t.size,fun k hk aA=>t.block k hk (fun e=>aA (by rw[e]))⟩ (fun q hq=>by
    have:=(h.lt hq).1;simp only[ne_eq,Option.some.injEq];omega)
theorem zL1(f:Nat->Value):(Tryz.prog.info? 159).map (·.size)=some ((List.range 41).map f).length:=by
  rw[zJx];simp
theorem zNs(v:Value)(lo hi:Nat)(p:zJ)(xs xb:Int)(n:Nat)(w:World)(h1:qA w lo hi v p.n p.s)(hT:yk p xs xb)(hn:n<64) :
  Calls Tryz.prog 102 #[v,.agg #[.int .i64 xs,.int .i64 xb],.int .i64 (n:Int)] w fun e w'=>∃o,e = .returned (.agg (zAT (yJ p xs xb n 2 3 o)))/\zw w' w.heap.size o (qf p xs xb n 3)/\Below w.heap.size w w':=by
 have Hp:=zE h1;have HT:=zE hT;obtain⟨_,a,c,rfl,_⟩:=id h1;clear h1 hT;have rD:(n:Int)<64:=by omega
 have tD:0<=(n:Int) % 8:=by omega
 have vD:(n:Int) % 8<8:=by omega
 have pC:=zC w (.cells #[.int .i64 xs,.int .i64 xb] 61);have aC:=zC (w.alloc (.cells #[.int .i64 xs,.int .i64 xb] 61)) (.cells #[.int .i64 0,.int .i64 0,.int .i64 0,.int .i64 0,.int .i64 0,.int .i64 0,.int .i64 0,.int .i64 0,.int .i64 0,.int .i64 0,.int .i64 0,.int .i64 0,.int .i64 0,.int .i64 0,.int .i64 0,.int .i64 0,.int .i64 0,.int .i64 0,.int .i64 0,.int .i64 0,.int .i64 0,.int .i64 0,.int .i64 0,.int .i64 0,.int .i64 0,.int .i64 0,.int .i64 0,.int .i64 0,.int .i64 0,.int .i64 0,.int .i64 0,.int .i64 0,.int .i64 0,.int .i64 0,.int .i64 0,.int .i64 0,.int .i64 0,.int .i64 0,.int .i64 0,.int .i64 0,.slice none 0 0] 159);have gB:=zE ((zc.zRL w (.int .i64 xs) (.int .i64 xb) 61).zRJ aC);have mB:Hid (((w.alloc (.cells #[.int .i64 xs,.int .i64 xb] 61)).alloc (.cells #[.int .i64 0,.int .i64 0,.int .i64 0,.int .i64 0,.int .i64 0,.int .i64 0,.int .i64 0,.int .i64 0,.int .i64 0,.int .i64 0,.int .i64 0,.int .i64 0,.int .i64 0,.int .i64 0,.int .i64 0,.int .i64 0,.int .i64 0,.int .i64 0,.int .i64 0,.int .i64 0,.int .i64 0,.int .i64 0,.int .i64 0,.int .i64 0,.int .i64 0,.int .i64 0,.int .i64 0,.int .i64 0,.int .i64 0,.int .i64 0,.int .i64 0,.int .i64 0,.int .i64 0,.int .i64 0,.int .i64 0,.int .i64 0,.int .i64 0,.int .i64 0,.int .i64 0,.int .i64 0,.slice none 0 0] 159)).heap[w.heap.size+1]?=some (.cells zNr 159 (0,0))):=by
  have:=heap_alloc_new (w.alloc (.cells #[.int .i64 xs,.int .i64 xb] 61)) (.cells #[.int .i64 0,.int .i64 0,.int .i64 0,.int .i64 0,.int .i64 0,.int .i64 0,.int .i64 0,.int .i64 0,.int .i64 0,.int .i64 0,.int .i64 0,.int .i64 0,.int .i64 0,.int .i64 0,.int .i64 0,.int .i64 0,.int .i64 0,.int .i64 0,.int .i64 0,.int .i64 0,.int .i64 0,.int .i64 0,.int .i64 0,.int .i64 0,.int .i64 0,.int .i64 0,.int .i64 0,.int .i64 0,.int .i64 0,.int .i64 0,.int .i64 0,.int .i64 0,.int .i64 0,.int .i64 0,.int .i64 0,.int .i64 0,.int .i64 0,.int .i64 0,.int .i64 0,.int .i64 0,.slice none 0 0] 159);rw[World.size_alloc]at this;exact this
 have eB:=zA pC aC;have nA:((w.alloc (.cells #[.int .i64 xs,.int .i64 xb] 61)).alloc (.cells #[.int .i64 0,.int .i64 0,.int .i64 0,.int .i64 0,.int .i64 0,.int .i64 0,.int .i64 0,.int .i64 0,.int .i64 0,.int .i64 0,.int .i64 0,.int .i64 0,.int .i64 0,.int .i64 0,.int .i64 0,.int .i64 0,.int .i64 0,.int .i64 0,.int .i64 0,.int .i64 0,.int .i64 0,.int .i64 0,.int .i64 0,.int .i64 0,.int .i64 0,.int .i64 0,.int .i64 0,.int .i64 0,.int .i64 0,.int .i64 0,.int .i64 0,.int .i64 0,.int .i64 0,.int .i64 0,.int .i64 0,.int .i64 0,.int .i64 0,.int .i64 0,.int .i64 0,.int .i64 0,.slice none 0 0] 159)).heap.size=w.heap.size+2:=by rw[World.size_alloc,World.size_alloc]
 clear pC aC;go_enter Tryz.func102,Tryz.ntmps102;go_wp2;refine zJw (zRH p (.slice a p.n c) xs xb n w w.heap.size) 6 ?_ ?_ ?_
 ·rintro l a w ⟨B,X,L,_,hL,_,_,_,_,_,h | h⟩
  ·have:=h.2.1;omega
  ·have:=h.2.1;omega
 ·clear gB mB eB nA;rintro k l a' w1 ⟨B,X,L,⟨j,rfl⟩,hL,hB,hX,lA,hb,hO,⟨rfl,hk,hW,hx⟩ | ⟨rfl,hk,o,hW,hr⟩⟩
  ·refine⟨_,rfl,?_⟩;have HW:=zE hW;have HX:=zE hx;have HO:=zE hO;have Hb:=zE hb;have Hk:=zE hk;have fD:(L:Int)<3:=(by omega);have bD:B≠X:=(by omega);obtain⟨⟨x0,x1⟩,⟨x2,x3⟩⟩:=hx;obtain⟨y0,y1⟩:=HW.out (34+L*2) (by omega);obtain⟨y2,y3⟩:=HW.out (34+L*2+1) (by omega);clear hW hO hb hk;go_upto_region 4 with fail;have kB:zF (fun k=>k=B) w1 ((w1.setCell ⟨B,34+L*2,none⟩ (.int .i64 (qq p xs xb n L))).setCell ⟨B,34+L*2+1,none⟩ (.int .i64 (yR p xs xb n L))):=((zF.refl (fun k=>k=B) w1).setCell (p:=⟨B,34+L*2,none⟩) rfl _).setCell (p:=⟨B,34+L*2+1,none⟩) rfl _;have aB:=zE (zP8 hL HW.out);have jB:=zE (HX.out.zRR kB (by omega));have vA:=zE ((kB.block _ (by omega) (by omega)).trans HO.out);have fA:=zE ((Hb.out.setCell (p:=⟨B,34+L*2,none⟩) (by show _<=B;omega) (.int .i64 (qq p xs xb n L))).setCell (p:=⟨B,34+L*2+1,none⟩) (by show _<=B;omega) (.int .i64 (yR p xs xb n L)));have bA:=Nat.lt_of_lt_of_le lA kB.size;clear kB x0 x1 x2 x3 y0 y1 y2 y3;generalize (w1.setCell ⟨B,34+L*2,none⟩ (.int .i64 (qq p xs xb n L))).setCell ⟨B,34+L*2+1,none⟩ (.int .i64 (yR p xs xb n L))=w2 at aB jB vA fA bA ⊢;clear HW HX HO Hb lA;obtain⟨⟨x0,x1⟩,⟨x2,x3⟩⟩:=jB.out;by_cases hN:Nil (qq p xs xb n L) (yR p xs xb n L)
   ·have HN:=zE hN;rw[hN.1]at x0;rw[hN.2]at x2;clear hN;go_wp2;go_step3;have hk:=Hk.out;exact⟨B,X,L,zDQ _ rfl,hL,hB,hX,bA,fA.out,vA.out,Or.inr ⟨rfl,by omega,.slice none 0 0,zNJ hL aB.out (fun _=>HN.out),by rw[zPB (fun _=>HN.out) hL];exact zw.nil _ _⟩⟩
   ·have HN:=zE hN;by_cases vC:L=2
    ·subst vC;rcases zAS hN with e0 | ⟨e0,e1⟩
     all_goals
      clear hN;go_wp2;go_step3;have hk:=Hk.out;exact⟨B,X,2,zDQ _ rfl,hL,hB,hX,bA,fA.out,vA.out,Or.inr ⟨rfl,by omega,.slice none 0 0,zNJ hL aB.out (fun h=>absurd h (by omega)),zw.nil _ _⟩⟩
    ·have jA:L<2:=(by omega);have pD:((L:Int) == 2)=false:=(by simp;omega);have hK:=(zQo HT.out hn jA).resolve_left hN;obtain⟨m,hm⟩:=Int.eq_ofNat_of_zero_le hK.1.2.1;have eD:m<p.n:=(by have:=hK.1.2.2.1;omega);have mD:(m:Int)<(p.n:Int):=(by omega);have gD:Hid ((p.s m).kn=8):=by
      have:=hK.2;rw[hm]at this;exact this
     obtain⟨b,off,ka,kc,rfl,jC⟩:=(Hp.out.zRJ fA.out).cells eD;have HC:=zE jC;obtain⟨q0,q1,q2,_⟩:=jC;have Hm:=zE hm;have sC:=zAS hN;rw[hm]at x0 sC;clear hm hK hN;have cC:Hid ((Tryz.prog.info? 155).map (·.size)=some (qE (p.s m)).size):=by
      show _=_;rw[qE,qB];exact zBp
     rcases sC with e0 | ⟨e0,e1⟩
     all_goals
      go_wp2_with fail;refine(zDS _ _ _ lo hi (p.s m) _ HC.out.slot (Or.inr gD.out)).mono ?_;rintro e w3 ⟨rfl,oA⟩;have gC:=zE (aB.out.zRJ oA);have mC:=zE (jB.out.zRJ oA);have tC:=zE ((oA.block _ (by omega)).trans vA.out);have tB:=zE (fA.out.trans (oA.mono fA.out.size));have rA:=Nat.lt_of_lt_of_le bA oA.size;have rC:Hid (w3.there B (2+L*16) (qE (p.s m)).size):=by
       have:=gC.out.there (o:=2+L*16) (n:=16) (by omega);rw[<-qB (zk (p.s m))]at this;exact this
      clear oA x0 x1 x2 x3 q0 q1 q2 HC aB jB vA fA bA;go_upto_region 6 with(refine wpList_store_mid rfl 155 (.tmp 36) (.tmp 34) rfl B (2+L*16) (qE (p.s m)) rfl rfl rC.out cC.out (zAs _) ?_);have cB:=zDt B (qE (p.s m)).toList (2+L*16) w3;have pA:Hid (yO (w3.setCells B (2+L*16) (qE (p.s m)).toList) B (yJ p xs xb n (L+1) (L+1) (.slice none 0 0))):=by
       have:=zPe jA gC.out HN.out;rw[Hm.out]at this;exact this
      have vB:=zE (mC.out.zRR cB (by omega));have iC:=zE ((cB.block _ (by omega) (by omega)).trans tC.out);have sB:=zE (tB.out.trans (cB.zRJ (B:=w.heap.size) (tB.out.size) (by intro k hk;omega)));have sA:=Nat.lt_of_lt_of_le rA cB.size;clear cB gC mC tC tB rA rC;generalize w3.setCells B (2+L*16) (qE (p.s m)).toList=w4 at pA vB iC sB sA ⊢;have sD:=zIT (n:=n) (L:=L) hn;have iD:((plc n L:Nat):Int)<8:=(by omega);obtain⟨⟨x0,x1⟩,⟨x2,x3⟩⟩:=vB.out;obtain⟨z0,_⟩:=pA.out L (by omega);rw[zH1 p xs xb n _ _ _ jA]at z0;obtain⟨y0,_⟩:=pA.out (2+L*16+plc n L*2) (by omega);rw[zLO p xs xb n _ _ jA (by omega),<-(zDM p xs xb n jA).1]at y0;obtain⟨y1,_⟩:=pA.out (2+L*16+plc n L*2+1) (by omega);rw[Nat.add_assoc,zLO p xs xb n _ _ jA (by omega),<-(zDM p xs xb n jA).2,<-Nat.add_assoc]at y1;have tA:Hid (∀(u v:Value) (w5:World),w5=((w4.drew.setCell ⟨X,0,none⟩ u).setCell ⟨X,1,none⟩ v)->(w5.cell? ⟨B,L,none⟩=some (.int .i64 ((plc n L:Nat):Int))/\w5.cell? ⟨B,2+L*16+plc n L*2,none⟩=some (.int .i64 (qq p xs xb n (L+1)))/\w5.cell? ⟨B,2+L*16+plc n L*2+1,none⟩=some (.int .i64 (yR p xs xb n (L+1))))):=by
       intro u v w5 e5;have h:=fun o=>(qm w4.drew X u v).cell (b:=B) (o:=o) (by show B<w4.heap.size;omega) (by omega)
       rw[e5,h,h,h];exact⟨z0,y0,y1⟩
      have kD:(L:Int)<2:=(by omega);simp only[Act.put];refine wp_region_held_drew (S:=(fun w'=>w'.cell? ⟨B,L,none⟩=some (.int .i64 ((plc n L:Nat):Int))/\w'.cell? ⟨B,2+L*16+plc n L*2,none⟩=some (.int .i64 (qq p xs xb n (L+1)))/\w'.cell? ⟨B,2+L*16+plc n L*2+1,none⟩=some (.int .i64 (yR p xs xb n (L+1))))) (by kernel_rfl) ?_ (fun hHeld=>?_)
      ·(try dsimp only)
       go_keep
      refine wpAnyH_take (i:=0) (oi:=({dst:=some 37,op:=Op.move (Operand.tmp 9),type:=3,pos:= "l02_tree.go:165",after:=#[],guard:=none}:Oper)) (v:=?_) rfl (by kernel_rfl) (by kernel_rfl) (by kernel_rfl) (fun _ _ _ h=>h) (Or.inl ⟨by rfl,?_⟩) (by assumption) ?_;rotate_left
      ·(intro w aA;(try dsimp only at aA);go_simp;try with_reducible rfl)
      try simp only[Act.put,List.setIfInBounds_toArray,List.set_cons_zero,List.set_cons_succ]
      refine wpAnyH_take (i:=1) (oi:=({dst:=some 38,op:=Op.move (Operand.tmp 9),type:=3,pos:= "l02_tree.go:165",after:=#[],guard:=none}:Oper)) (v:=?_) rfl (by kernel_rfl) (by kernel_rfl) (by kernel_rfl) (fun _ _ _ h=>h) (Or.inl ⟨by rfl,?_⟩) (by assumption) ?_;rotate_left
      ·(intro w aA;(try dsimp only at aA);go_simp;try with_reducible rfl)
      try simp only[Act.put,List.setIfInBounds_toArray,List.set_cons_zero,List.set_cons_succ]
      refine wpAnyH_take (i:=2) (oi:=({dst:=some 39,op:=Op.fieldAddr 159 (Operand.tmp 7) 0,type:=0,pos:= "l02_tree.go:165",after:=#[],guard:=none}:Oper)) (v:=?_) rfl (by kernel_rfl) (by kernel_rfl) (by kernel_rfl) (fun _ _ _ h=>h) (Or.inl ⟨by rfl,?_⟩) (by assumption) ?_;rotate_left
      ·(intro w aA;(try dsimp only at aA);go_simp;try with_reducible rfl)
      try simp only[Act.put,List.setIfInBounds_toArray,List.set_cons_zero,List.set_cons_succ]
      refine wpAnyH_take (i:=3) (oi:=({dst:=some 40,op:=Op.indexAddr 154 (Operand.tmp 39) (Operand.tmp 38),type:=0,pos:= "l02_tree.go:165",after:=#[{on:=2,ground:=Ground.data},{on:=1,ground:=Ground.data}],guard:=none}:Oper)) (v:=?_) rfl (by kernel_rfl) (by kernel_rfl) (by kernel_rfl) (fun _ _ _ h=>h) (Or.inl ⟨by rfl,?_⟩) (by assumption) ?_;rotate_left
      ·(intro w aA;(try dsimp only at aA);go_simp;try with_reducible rfl)
      try simp only[Act.put,List.setIfInBounds_toArray,List.set_cons_zero,List.set_cons_succ]
      refine wpAnyH_take (i:=4) (oi:=({dst:=some 41,op:=Op.load 2 (Operand.tmp 40),type:=2,pos:= "l02_tree.go:165",after:=#[{on:=3,ground:=Ground.data}],guard:=none}:Oper)) (v:=?_) rfl (by kernel_rfl) (by kernel_rfl) (by kernel_rfl) (fun _ _ _ h=>h) (Or.inl ⟨by rfl,?_⟩) (by assumption) ?_;rotate_left
      ·(intro w aA;(try dsimp only at aA);go_simp;try with_reducible rfl)
      try simp only[Act.put,List.setIfInBounds_toArray,List.set_cons_zero,List.set_cons_succ]
      refine wpAnyH_take (i:=5) (oi:=({dst:=some 42,op:=Op.fieldAddr 159 (Operand.tmp 7) 1,type:=0,pos:= "l02_tree.go:165",after:=#[],guard:=none}:Oper)) (v:=?_) rfl (by kernel_rfl) (by kernel_rfl) (by kernel_rfl) (fun _ _ _ h=>h) (Or.inl ⟨by rfl,?_⟩) (by assumption) ?_;rotate_left
      ·(intro w aA;(try dsimp only at aA);go_simp;try with_reducible rfl)
      try simp only[Act.put,List.setIfInBounds_toArray,List.set_cons_zero,List.set_cons_succ]
      refine wpAnyH_take (i:=6) (oi:=({dst:=some 43,op:=Op.indexAddr 156 (Operand.tmp 42) (Operand.tmp 37),type:=0,pos:= "l02_tree.go:165",after:=#[{on:=5,ground:=Ground.data},{on:=0,ground:=Ground.data}],guard:=none}:Oper)) (v:=?_) rfl (by kernel_rfl) (by kernel_rfl) (by kernel_rfl) (fun _ _ _ h=>h) (Or.inl ⟨by rfl,?_⟩) (by assumption) ?_;rotate_left
      ·(intro w aA;(try dsimp only at aA);go_simp;try with_reducible rfl)
      try simp only[Act.put,List.setIfInBounds_toArray,List.set_cons_zero,List.set_cons_succ]
      refine wpAnyH_take (i:=7) (oi:=({dst:=some 44,op:=Op.indexAddr 155 (Operand.tmp 43) (Operand.tmp 41),type:=0,pos:= "l02_tree.go:165",after:=#[{on:=6,ground:=Ground.data},{on:=4,ground:=Ground.data}],guard:=none}:Oper)) (v:=?_) rfl (by kernel_rfl) (by kernel_rfl) (by kernel_rfl) (fun _ _ _ h=>h) (Or.inl ⟨by rfl,?_⟩) (by assumption) ?_;rotate_left
      ·(intro w aA;(try dsimp only at aA);go_simp;try with_reducible rfl)
      try simp only[Act.put,List.setIfInBounds_toArray,List.set_cons_zero,List.set_cons_succ]
      refine wpAnyH_take (i:=8) (oi:=({dst:=some 45,op:=Op.load 61 (Operand.tmp 44),type:=61,pos:= "l02_tree.go:165",after:=#[{on:=7,ground:=Ground.data}],guard:=none}:Oper)) (v:=?_) rfl (by kernel_rfl) (by kernel_rfl) (by kernel_rfl) (fun _ _ _ h=>h) (Or.inl ⟨by rfl,?_⟩) (by assumption) ?_;rotate_left
      ·(intro w aA;(try dsimp only at aA);go_simp;try with_reducible rfl)
      try simp only[Act.put,List.setIfInBounds_toArray,List.set_cons_zero,List.set_cons_succ]
      refine wpAnyH_ready (rs:=[9]) (by kernel_rfl) (by simp) ?_;refine AllReadyH.cons (o:=({dst:=none,op:=Op.store 61 (Operand.tmp 8) (Operand.tmp 45),type:=0,pos:= "l02_tree.go:165",after:=#[{on:=8,ground:=Ground.data},{on:=0,ground:=Ground.phase},{on:=1,ground:=Ground.phase},{on:=2,ground:=Ground.phase},{on:=3,ground:=Ground.phase},{on:=4,ground:=Ground.phase},{on:=5,ground:=Ground.phase},{on:=6,ground:=Ground.phase},{on:=7,ground:=Ground.phase},{on:=8,ground:=Ground.phase}],guard:=none}:Oper)) rfl (fun K hK=>?_) AllReadyH.nil;go_simp
      (try go_wp2_with fail)
      refine hK.out _ _ ?_ (fun cA=>?_)
      ·(try dsimp only)
       exact tA.out _ _ _ rfl
      clear hK K hHeld;have hHeld:=cA;clear cA
      try simp only[Act.put,List.setIfInBounds_toArray,List.set_cons_zero,List.set_cons_succ]
      refine wpAnyH_done (by kernel_rfl) ?_ _;go_wp2;go_step3;have hk:=Hk.out;have fB:zF (fun k=>k=X) w4 ((w4.setCell ⟨X,0,none⟩ (.int .i64 (qq p xs xb n (L+1)))).setCell ⟨X,1,none⟩ (.int .i64 (yR p xs xb n (L+1)))).drew:=by
       have h:=qm w4 X (.int .i64 (qq p xs xb n (L+1))) (.int .i64 (yR p xs xb n (L+1)));exact⟨h.os,h.tape,h.output,h.size,h.block⟩
      exact⟨B,X,L+1,zDQ _ rfl,by omega,hB,hX,Nat.lt_of_lt_of_le sA fB.size,sB.out.trans (fB.zRJ (B:=w.heap.size) sB.out.size (by intro k hk;omega)),(fB.block _ (by omega) (by omega)).trans iC.out,Or.inl ⟨rfl,by omega,pA.out.zRR fB (by omega),vB.out.put _ _⟩⟩
  ·refine⟨_,rfl,?_⟩;have HW:=zE hW;have HO:=zE hO;have Hb:=zE hb;have Hk:=zE hk;have HR:=zE hr;have fD:(L:Int)<3:=(by omega);have bD:B≠X:=(by omega);obtain⟨y0,_⟩:=HW.out (34+L*2) (by omega);rw[(zMG p xs xb n 2 o hL).1]at y0;obtain⟨y1,_⟩:=HW.out (34+L*2+1) (by omega);rw[(zMG p xs xb n 2 o hL).2]at y1;clear hW hO hb hk hr;obtain⟨wd,lC⟩:=Option.map_eq_some_iff.1 zPc;have HU:=zE lC;clear lC;by_cases hN:Nil (qq p xs xb n L) (yR p xs xb n L)
   ·have HN:=zE hN;rw[hN.1]at y0;rw[hN.2]at y1;clear hN;have dA:Hid (zw w1 (X+1) o (qf p xs xb n (2 - L+1))):=by
     have:=HR.out;rw[zLR p xs xb n hL];unfold one;rw[if_pos HN.out,List.append_nil];exact this
    have iA:=HW;have eA:=HO;have mA:=Hb;have iB:=lA;clear HW HO Hb HR lA;by_cases dC:L=0
    ·subst dC;go_wp2_with (first
      | (refine wpList_load_mid rfl 159 (.tmp 7) rfl B 0 rfl ((List.range 41).map (yJ p xs xb n 2 3 o)) wd iA.out.range HU.out.1 HU.out.2 (zL1 _) ?_)
      | (refine wpList_store_row rfl 159 (.tmp 6) (.tmp 67) rfl (w.heap.size+1) (zAT (yJ p xs xb n 2 3 o)) rfl rfl 159 zNr eA.out (zDD _) (by rw[zEd];rfl) (zIc _ _ _ _ _ _ dA.out.one) ?_)
      | fail)
     unfold hop;dsimp only;refine bodyPost_ret (v:=.agg (zAT (yJ p xs xb n 2 3 o))) (results_cell_row (P:=Tryz.prog) (ty:=159) Tryz.results102 _ _ (w.heap.size+1) 159 (zAT (yJ p xs xb n 2 3 o)) (0,0) _ rfl (setRow_heap _ _ _ _ _ _ eA.out) HU.out.1 (by have:=HU.out.2;cases wd<;>exact this) (zDD _)) rfl ⟨o,rfl,?_,?_⟩
     ·exact(dA.out.setRow (by omega) _).mono (by omega)
     ·exact below_setRow mA.out (by omega) _
    ·obtain⟨M,rfl⟩:∃M,L=M+1:=⟨L - 1,by omega⟩;have hM:(0:Int)<(M:Int)+1:=(by omega);go_wp2;go_step3;have hk:=Hk.out;exact⟨B,X,M,zDQ _ rfl,by omega,hB,hX,iB,mA.out,eA.out,Or.inr ⟨rfl,by omega,o,iA.out,by
      have:=dA.out;rw[show 2 - (M+1)+1=2 - M by omega]at this;exact this⟩⟩
   ·have HN:=zE hN;obtain⟨oa,oc,rfl,_⟩:=zW HR.out;have pB:w1.cell? ⟨B,40,none⟩=some (.slice oa (qf p xs xb n (2 - L)).length oc):=(HW.out 40 (by omega)).1;rcases zAS hN with e0 | ⟨e0,e1⟩
    all_goals
     clear hN;go_upto_region 9 with fail;have eC:Below w1.heap.size w1 (w1.alloc (.cells #[.int .i64 (qq p xs xb n L),.int .i64 (yR p xs xb n L)] 61)):=zC _ _;have bC:(w1.alloc (.cells #[.int .i64 (qq p xs xb n L),.int .i64 (yR p xs xb n L)] 61)).cell? ⟨B,40,none⟩=some (.slice oa (qf p xs xb n (2 - L)).length oc):=((HW.out.zRJ eC) 40 (by omega)).1;have dB:Hid (Below w1.heap.size w1 (w1.alloc (.cells #[.int .i64 (qq p xs xb n L),.int .i64 (yR p xs xb n L)] 61)).drew):=eC.drew;clear eC;have oC:Hid (zw (w1.alloc (.cells #[.int .i64 (qq p xs xb n L),.int .i64 (yR p xs xb n L)] 61)).drew w1.heap.size (.slice (some ⟨w1.heap.size,0,none⟩) 1 1) [(qq p xs xb n L,yR p xs xb n L)]):=World.ownsRow_lit (e:=61) (size:=2) w1 #[.int .i64 (qq p xs xb n L),.int .i64 (yR p xs xb n L)] 1 (Nat.le_refl _) (by unfold maxLen;omega) rfl
     go_region_law (refine zOD rfl (.tmp 55) (.tmp 60) rfl (X+1) w1.heap.size (.slice oa (qf p xs xb n (2 - L)).length oc) (qf p xs xb n (2 - L)) (by simp[Act.eval]) (HR.out.zRJ dB.out) (some ⟨w1.heap.size,0,none⟩) 1 1 [(qq p xs xb n L,yR p xs xb n L)] (by simp[Act.eval]) rfl oC.out (by have:=zMV p xs xb n (2 - L);simp;omega) (by have:=dB.out.size;omega) ?_;intro v3 w3 fC kA;obtain⟨va,vc,rfl,_⟩:=zW fC;have rB:zF (fun k=>X<k) w1 w3:=(zF.zRM dB.out).trans ⟨kA.os,kA.tape,kA.output,kA.size,fun k hk lD=>kA.block k hk (fun e=>lD (by have:=(HR.out.lt e.symm).1;omega))⟩;obtain⟨k0,cD⟩:=(HW.out.zRR rB (by omega)) 40 (by omega);have oB:=zE rB;have nC:=zE fC;clear rB fC kA)
     all_goals
      have bB:(qf p xs xb n (2 - L) ++ [(qq p xs xb n L,yR p xs xb n L)]).length=(qf p xs xb n (2 - L)).length+1:=(by simp);have nB:zF (fun k=>X<k\/k=B) w1 (w3.setCell ⟨B,40,none⟩ (.slice va ((qf p xs xb n (2 - L)).length+1) vc)):=zF.setCell (S:=fun k=>X<k\/k=B) (oB.out.mono (fun k hk=>Or.inl hk)) (p:=⟨B,40,none⟩) (Or.inr rfl) _;have iA:=zE (zQL (.slice va ((qf p xs xb n (2 - L)).length+1) vc) (HW.out.zRR oB.out (by omega)));have dA:Hid (zw (w3.setCell ⟨B,40,none⟩ (.slice va ((qf p xs xb n (2 - L)).length+1) vc)) (X+1) (.slice va ((qf p xs xb n (2 - L)).length+1) vc) (qf p xs xb n (2 - L+1))):=by
       have:=nC.out.put (b:=B) (o:=40) (by omega) (.slice va ((qf p xs xb n (2 - L)).length+1) vc);rw[bB]at this;rw[zLR p xs xb n hL];unfold one;rw[if_neg HN.out];exact this
      have eA:=zE ((nB.block _ (by omega) (by omega)).trans HO.out);have mA:=zE (Hb.out.trans (nB.zRJ (B:=w.heap.size) Hb.out.size (by intro k hk;omega)));have iB:=Nat.lt_of_lt_of_le lA nB.size;clear nB nC oB dB oC bC pB HW HO Hb HR lA k0 cD bB y0 y1;generalize w3.setCell ⟨B,40,none⟩ (.slice va ((qf p xs xb n (2 - L)).length+1) vc)=w4 at iA dA eA mA iB ⊢;generalize Value.slice va ((qf p xs xb n (2 - L)).length+1) vc=oq at iA dA ⊢;by_cases dC:L=0
      ·subst dC;go_wp2_with (first
        | (refine wpList_load_mid rfl 159 (.tmp 7) rfl B 0 rfl ((List.range 41).map (yJ p xs xb n 2 3 oq)) wd iA.out.range HU.out.1 HU.out.2 (zL1 _) ?_)
        | (refine wpList_store_row rfl 159 (.tmp 6) (.tmp 67) rfl (w.heap.size+1) (zAT (yJ p xs xb n 2 3 oq)) rfl rfl 159 zNr eA.out (zDD _) (by rw[zEd];rfl) (zIc _ _ _ _ _ _ dA.out.one) ?_)
        | fail)
       unfold hop;dsimp only;refine bodyPost_ret (v:=.agg (zAT (yJ p xs xb n 2 3 oq))) (results_cell_row (P:=Tryz.prog) (ty:=159) Tryz.results102 _ _ (w.heap.size+1) 159 (zAT (yJ p xs xb n 2 3 oq)) (0,0) _ rfl (setRow_heap _ _ _ _ _ _ eA.out) HU.out.1 (by have:=HU.out.2;cases wd<;>exact this) (zDD _)) rfl ⟨oq,rfl,?_,?_⟩
       ·exact(dA.out.setRow (by omega) _).mono (by omega)
       ·exact below_setRow mA.out (by omega) _
      ·obtain⟨M,rfl⟩:∃M,L=M+1:=⟨L - 1,by omega⟩;have hM:(0:Int)<(M:Int)+1:=(by omega);go_wp2;go_step3;have hk:=Hk.out;exact⟨B,X,M,zDQ _ rfl,by omega,hB,hX,iB,mA.out,eA.out,Or.inr ⟨rfl,by omega,oq,iA.out,by
        have:=dA.out;rw[show 2 - (M+1)+1=2 - M by omega]at this;exact this⟩⟩
 ·intro enter;go_upto_region 1 with fail;generalize (w.alloc (.cells #[.int .i64 xs,.int .i64 xb] 61)).alloc (.cells #[.int .i64 0,.int .i64 0,.int .i64 0,.int .i64 0,.int .i64 0,.int .i64 0,.int .i64 0,.int .i64 0,.int .i64 0,.int .i64 0,.int .i64 0,.int .i64 0,.int .i64 0,.int .i64 0,.int .i64 0,.int .i64 0,.int .i64 0,.int .i64 0,.int .i64 0,.int .i64 0,.int .i64 0,.int .i64 0,.int .i64 0,.int .i64 0,.int .i64 0,.int .i64 0,.int .i64 0,.int .i64 0,.int .i64 0,.int .i64 0,.int .i64 0,.int .i64 0,.int .i64 0,.int .i64 0,.int .i64 0,.int .i64 0,.int .i64 0,.int .i64 0,.int .i64 0,.int .i64 0,.slice none 0 0] 159)=W at gB mB eB nA ⊢;have lB:=zC W (.cells (zHw n) 159);have aD:=zE (gB.out.zRJ lB);have oD:=zE (zP7 W n);have jD:=zE ((lB.block _ (by omega)).trans mB.out);have dD:=zA eB lB;have kC:(W.alloc (.cells (zHw n) 159)).heap.size=w.heap.size+3:=(by rw[World.size_alloc,nA]);obtain⟨⟨x0,x1⟩,⟨x2,x3⟩⟩:=aD.out;have nD:=zE nA;clear lB gB mB eB nA;go_wp2_with (first
   | (refine wpList_store_row rfl 159 (.tmp 7) (.tmp 15) rfl W.heap.size (zHw n) rfl rfl 159 zNr (heap_alloc_last _ _) (zOr n) rfl (zPt n) ?_;rw[World.setRow_alloc_new])
   | fail)
  go_step3
  rename_i K hK
  refine hK _ _ (enter 0 _ _ _ rfl ?_);clear hK;have nA:=nD.out;have gA:=zC (W.alloc (.cells (zHw n) 159)) (.cells #[.int .i64 xs,.int .i64 xb] 61);refine⟨W.heap.size,w.heap.size+3,0,zDQ _ rfl,by omega,by omega,by omega,by rw[World.size_alloc,kC];omega,zA dD gA,?_,Or.inl ⟨rfl,by omega,?_,?_⟩⟩
  ·exact(gA.block _ (by omega)).trans jD.out
  ·exact(oD.out.zRJ gA).congr fun i hi=>zO0 p xs xb n hi
  ·have:=zc.zRL (W.alloc (.cells (zHw n) 159)) (.int .i64 xs) (.int .i64 xb) 61;rw[kC]at this;exact this
theorem zD3(p:zJ)(i:Nat)(s:zL):(ql p i s).s i=s:=if_pos rfl
theorem zEf(p:zJ){i j:Nat}(s:zL)(h:j≠i):(ql p i s).s j=p.s j:=if_neg h
theorem zFU{p:zJ}{i:Nat}{s:zL}{xs xb:Int}(hi:qF (p.s i))(h:zr p xs xb):zr (ql p i s) xs xb:=by
 obtain⟨h1,h2,h3,h4⟩:=h;refine⟨h1,h2,h3,?_⟩;have aA:xs.toNat≠i:=fun e=>by
  rw[e]at h4;have:=hi.1;omega
 rw[zEf p s aA];exact h4
theorem zLW{p:zJ}{i:Nat}{s t:zL}(hi:qF (p.s i))(h:zAN p t):zAN (ql p i s) t:=by
 refine⟨h.1,?_⟩;rcases h.2 with h2 | h2
 ·exact Or.inl h2
 ·refine Or.inr ⟨h2.1,h2.2.1,fun m hm=>?_⟩;rcases h2.2.2 m hm with h3 | h3
  ·exact Or.inl h3
  ·exact Or.inr ⟨zFU hi h3.1,h3.2⟩
theorem zEa{p:zJ}{i:Nat}{s:zL}(hR:zv p)(hi:zBU p.n p.s i)(hs:zAN p s):zv (ql p i s):=by
 refine⟨hR.1,fun j hj=>?_,fun j hj=>?_⟩
 ·by_cases e:j=i
  ·rw[e,zD3];exact Or.inr (zLW hi.2.1 hs)
  ·rw[zEf p s e];rcases hR.2.1 j hj with h | h
   ·exact Or.inl h
   ·exact Or.inr (zLW hi.2.1 h)
 ·obtain⟨h1,h2,h3,h4⟩:=hR.2.2 j hj;refine⟨h1,h2,?_,h4⟩;have aA:(p.h j).toNat≠i:=fun e=>h3 (by rw[e];exact hi.2.1)
  show ¬qF ((ql p i s).s (p.h j).toNat);rw[zEf p s aA];exact h3
theorem zBr{p:zJ}{s:zL}(h:zAN p s):¬qF s:=fun hf=>by
 have:=hf.1;have:=h.1.1;omega
def qL(p:zJ)(xs xb:Int)(n L:Nat)(x:Int)(i:Nat):Int:=if i=plc n L then x else yp p (qq p xs xb n L) (yR p xs xb n L) i
def qK(p:zJ)(xs xb:Int)(n L:Nat)(y:Int)(i:Nat):Int:=if i=plc n L then y else zAF p (qq p xs xb n L) (yR p xs xb n L) i
noncomputable def zJn(p:zJ)(xs xb:Int)(n:Nat)(b:Int)(o:zDk)(L:Nat):zDk:=zEy o.zRQ (qL p xs xb n L o.ps) (qK p xs xb n L o.pb) b
noncomputable def layS(p:zJ)(xs xb:Int)(n:Nat)(b:Int)(o:zDk):Nat->zDk
 | 0=>o
 | k+1=>zJn p xs xb n b (layS p xs xb n b o k) (1 - k)
theorem zII:qD (zDp 0)=0:=rfl
theorem zMn(p:zJ)(s:zL):qD (zCt p s).zRQ<=qD p+zAU s:=by
 unfold zCt;split
 ·split
  ·exact zJh _ _ _
  ·show qD (zDp 0)<=_;rw[zII];omega
 ·show qD (zDp 0)<=_;rw[zII];omega
theorem zMU(p:zJ)(f g:Nat->Int)(b:Int):qD (zEy p f g b).zRQ<=qD p+8:=by
 unfold zEy;split
 ·show qD p<=_;omega
 ·exact zMn p (qW f g b)
theorem zGU(p:zJ)(xs xb:Int)(n:Nat)(b:Int)(o:zDk):∀k,qD (layS p xs xb n b o k).zRQ<=qD o.zRQ+8*k
 | 0=>Nat.le_refl _
 | k+1=>by
  have h1:=zGU p xs xb n b o k;have h2:=zMU (layS p xs xb n b o k).zRQ (qL p xs xb n (1 - k) (layS p xs xb n b o k).ps) (qK p xs xb n (1 - k) (layS p xs xb n b o k).pb) b;show qD (zEy _ _ _ _).zRQ<=_;omega
theorem zOC{p:zJ}{xs xb:Int}{n M L:Nat}{o:Value}{w:World}{B:Nat}(hL:L<2)(h:yO w B (yJ p xs xb n 2 M o)):w.rangeAt B (2+L*16) (zp (zB8 p xs xb n L)).toList:=fun j v hv=>by
 have hj:j<16:=by
  have:=(List.getElem?_eq_some_iff.1 hv).1;simpa[qB]using this
 have e:(zp (zB8 p xs xb n L)).toList[j]?=some (.int .i64 (zB8 p xs xb n L j)):=by rw[Array.getElem?_toList];exact yQ (zB8 p xs xb n L) hj
 rw[e]at hv;simp only[Option.some.injEq]at hv;rw[<-hv,(h (2+L*16+j) (by omega)).1];unfold yJ;rw[if_neg (by omega),if_pos (by omega),show(2+L*16+j - 2) / 16=L by omega,show(2+L*16+j - 2) % 16=j by omega,if_pos (by omega)]
theorem zQE(p:zJ)(xs xb:Int)(n L:Nat)(x y:Int)(hn:n<64):zp (fun j=>if j=plc n L*2 then x else if j=plc n L*2+1 then y else zB8 p xs xb n L j)=zp (mix (qL p xs xb n L x) (qK p xs xb n L y)):=by
 refine zJc fun j hj=>?_
 unfold mix qL qK;by_cases h1:j=plc n L*2
 ·rw[if_pos h1,if_pos (by omega),if_pos (by omega)]
 rw[if_neg h1];by_cases h2:j=plc n L*2+1
 ·rw[if_pos h2,if_neg (by omega),if_pos (by omega)]
 rw[if_neg h2];unfold zB8 yp zAF zb zu;by_cases h3:j % 2=0
 ·rw[if_pos h3,if_neg (show ¬j / 2=plc n L by omega),show j / 2*2=j by omega]
 ·rw[if_neg h3,if_neg (show ¬j / 2=plc n L by omega),show j / 2*2+1=j by omega]
structure zCA where
 zRQ:zJ
 rs:Int
 rb:Int
 old:List (Int×Int)
 code:Int
def zAb(c:Int):zCA:=⟨zDp 0,0,0,[],c⟩
def zHQ(t:zCA)(w:World)(e:Ending)(w':World):Prop:=
 ∃v0 v1 vo lo hi,e = .returned (.agg #[v0,v1,.int .i64 t.rs,.int .i64 t.rb,vo,.int .i64 t.code])/\w.heap.size<=lo/\hi<=w'.heap.size/\zt w' lo hi v0 v1 t.zRQ/\zw w' w.heap.size vo t.old/\(∀k,vo.ownBlock=some k->k<lo\/hi<=k)/\Below w.heap.size w w'
open Classical in
noncomputable def zAx(p:zJ)(xs xb:Int)(n:Nat)(b:Int)(o:zDk):zCA:=
 if (layS p xs xb n b o 1).code≠0 then zAb (layS p xs xb n b o 1).code
 else if (layS p xs xb n b o 2).code≠0 then zAb (layS p xs xb n b o 2).code
 else⟨(layS p xs xb n b o 2).zRQ,(layS p xs xb n b o 2).ps,(layS p xs xb n b o 2).pb,qf p xs xb n 3,0⟩
theorem zJz{p:zJ}{xs xb:Int}{n:Nat}{b:Int}{o:zDk}{k:Nat}(hk:k<2)(h:∀j,j<=k->(layS p xs xb n b o j).code=0)(hc:(layS p xs xb n b o (k+1)).code≠0):zAx p xs xb n b o=zAb (layS p xs xb n b o (k+1)).code:=by
 unfold zAx;rcases k with _ | _ | k
 ·rw[if_pos hc]
 ·rw[if_neg (fun hh=>hh (h 1 (by omega))),if_pos hc]
 ·omega
theorem zIJ{p:zJ}{xs xb:Int}{n:Nat}{b:Int}{o:zDk}(h:∀j,j<=2->(layS p xs xb n b o j).code=0):zAx p xs xb n b o=⟨(layS p xs xb n b o 2).zRQ,(layS p xs xb n b o 2).ps,(layS p xs xb n b o 2).pb,qf p xs xb n 3,0⟩:=by
 unfold zAx;rw[if_neg (fun hh=>hh (h 1 (by omega))),if_neg (fun hh=>hh (h 2 (by omega)))]
theorem zPA(w:World)(a0 a1 x0 x1:Value)(f:Nat->Value)(t1 t2 t3 t4:TypeId) :
  zc ((((w.alloc (.cells #[a0,a1] t1)).alloc (.cells (zAT f) t2)).alloc (.cells #[x0,x1] t3)).alloc (.cells #[.slice none 0 0,.slice none 0 0,.int .i64 0,.int .i64 0,.slice none 0 0,.int .i64 0] t4)) w.heap.size a0 a1/\
  yO ((((w.alloc (.cells #[a0,a1] t1)).alloc (.cells (zAT f) t2)).alloc (.cells #[x0,x1] t3)).alloc (.cells #[.slice none 0 0,.slice none 0 0,.int .i64 0,.int .i64 0,.slice none 0 0,.int .i64 0] t4)) (w.heap.size+1) f/\
  zc ((((w.alloc (.cells #[a0,a1] t1)).alloc (.cells (zAT f) t2)).alloc (.cells #[x0,x1] t3)).alloc (.cells #[.slice none 0 0,.slice none 0 0,.int .i64 0,.int .i64 0,.slice none 0 0,.int .i64 0] t4)) (w.heap.size+1+1) x0 x1/\
  zi ((((w.alloc (.cells #[a0,a1] t1)).alloc (.cells (zAT f) t2)).alloc (.cells #[x0,x1] t3)).alloc (.cells #[.slice none 0 0,.slice none 0 0,.int .i64 0,.int .i64 0,.slice none 0 0,.int .i64 0] t4)) (w.heap.size+1+1+1) (.slice none 0 0) (.slice none 0 0) (.int .i64 0) (.int .i64 0) (.slice none 0 0) (.int .i64 0)/\
  Below w.heap.size w ((((w.alloc (.cells #[a0,a1] t1)).alloc (.cells (zAT f) t2)).alloc (.cells #[x0,x1] t3)).alloc (.cells #[.slice none 0 0,.slice none 0 0,.int .i64 0,.int .i64 0,.slice none 0 0,.int .i64 0] t4))/\
  ((((w.alloc (.cells #[a0,a1] t1)).alloc (.cells (zAT f) t2)).alloc (.cells #[x0,x1] t3)).alloc (.cells #[.slice none 0 0,.slice none 0 0,.int .i64 0,.int .i64 0,.slice none 0 0,.int .i64 0] t4)).heap.size=w.heap.size+4:=by
 have b1:=zC w (.cells #[a0,a1] t1);have b2:=zC (w.alloc (.cells #[a0,a1] t1)) (.cells (zAT f) t2);have b3:=zC ((w.alloc (.cells #[a0,a1] t1)).alloc (.cells (zAT f) t2)) (.cells #[x0,x1] t3);have b4:=zC (((w.alloc (.cells #[a0,a1] t1)).alloc (.cells (zAT f) t2)).alloc (.cells #[x0,x1] t3)) (.cells #[.slice none 0 0,.slice none 0 0,.int .i64 0,.int .i64 0,.slice none 0 0,.int .i64 0] t4);refine⟨(((zc.zRL w a0 a1 t1).zRJ b2).zRJ b3).zRJ b4,?_,?_,?_,zA (zA (zA b1 b2) b3) b4,by simp⟩
 ·have hw:yO ((w.alloc (.cells #[a0,a1] t1)).alloc (.cells (zAT f) t2)) (w.heap.size+1) f:=fun i hi=>by
   have hb:=heap_alloc_new (w.alloc (.cells #[a0,a1] t1)) (.cells (zAT f) t2);rw[World.size_alloc]at hb;refine zI (i:=i) hb ?_;simp[zAT,hi]
  exact(hw.zRJ b3).zRJ b4
 ·have:=(zc.zRL ((w.alloc (.cells #[a0,a1] t1)).alloc (.cells (zAT f) t2)) x0 x1 t3).zRJ b4;rw[World.size_alloc,World.size_alloc]at this;exact this
 ·have:=zi.zRL (((w.alloc (.cells #[a0,a1] t1)).alloc (.cells (zAT f) t2)).alloc (.cells #[x0,x1] t3)) (.slice none 0 0) (.slice none 0 0) (.int .i64 0) (.int .i64 0) (.slice none 0 0) (.int .i64 0) t4;rw[World.size_alloc,World.size_alloc,World.size_alloc]at this;exact this
def zRA(p:zJ)(xs xb:Int)(n:Nat)(S:Nat->zDk)(o:Value)(w:World)(k:Nat)(wr:World):Prop:=
 (∀j,j<=k->(S j).code=0)/\∃s0 s1,zc wr w.heap.size s0 s1/\zy wr 0 wr.heap.size s0 s1 (S k).zRQ/\(0<k->zt wr (w.heap.size+5) wr.heap.size s0 s1 (S k).zRQ)/\
  zc wr (w.heap.size+4) (.int .i64 (S k).ps) (.int .i64 (S k).pb)/\yO wr (w.heap.size+1) (yJ p xs xb n 2 3 o)/\
  zi wr (w.heap.size+1+1+1) (.slice none 0 0) (.slice none 0 0) (.int .i64 0) (.int .i64 0) (.slice none 0 0) (.int .i64 0)/\w.heap.size+5<=wr.heap.size/\Below w.heap.size w wr
theorem qA.all{w:World}{lo hi:Nat}{v:Value}{n:Nat}{f:Nat->zL}(h:qA w lo hi v n f):qA w 0 w.heap.size v n f:=by
 obtain⟨h0,a,aA,hv,bA,hc⟩:=h;refine⟨h0,a,aA,hv,bA,fun hn=>?_⟩;obtain⟨b,off,ha,h1,h2,h3⟩:=hc hn;refine⟨b,off,ha,Nat.zero_le _,?_,fun i hi=>?_⟩
 ·obtain⟨v0,v1,v2,c0,_⟩:=h3 0 hn;exact zD c0
 ·obtain⟨v0,v1,v2,c0,c1,c2,hs⟩:=h3 i hi;exact⟨v0,v1,v2,c0,c1,c2,hs.all⟩
theorem zy.all{w:World}{lo hi:Nat}{v0 v1:Value}{p:zJ}(h:zy w lo hi v0 v1 p):zy w 0 w.heap.size v0 v1 p:=⟨h.1.all,h.2.all⟩
theorem zLS(v0 v1:Value)(lo hi:Nat)(p q:zJ)(xs xb x y b:Int)(n:Nat)(o:Value)(w:World)(h1:zy w lo hi v0 v1 q)(hn:n<64)(hq:qD q+16<=1048576)(hr:zw w 0 o (qf p xs xb n 3)) :
  Calls Tryz.prog 101 #[.agg #[v0,v1],.agg (zAT (yJ p xs xb n 2 3 o)),.agg #[.int .i64 x,.int .i64 y],.int .i64 b] w fun e w'=>
   ((zAx p xs xb n b ⟨q,x,y,0⟩).code≠0/\e = .returned (.agg #[.slice none 0 0,.slice none 0 0,.int .i64 0,.int .i64 0,.slice none 0 0,.int .i64 (zAx p xs xb n b ⟨q,x,y,0⟩).code])/\Below w.heap.size w w')\/
   ((zAx p xs xb n b ⟨q,x,y,0⟩).code=0/\∃s0 s1,e = .returned (.agg #[s0,s1,.int .i64 (layS p xs xb n b ⟨q,x,y,0⟩ 2).ps,.int .i64 (layS p xs xb n b ⟨q,x,y,0⟩ 2).pb,o,.int .i64 0])/\zt w' w.heap.size w'.heap.size s0 s1 (layS p xs xb n b ⟨q,x,y,0⟩ 2).zRQ/\Below w.heap.size w w'):=by
 have Hp:=zE h1;obtain⟨a,c,a',c',rfl,rfl⟩:=h1.form;have Hq:=zE hq;have Hr:=zE hr;clear h1 hq hr;have kD:=zPA w (.slice a q.n c) (.slice a' q.hn c') (.int .i64 x) (.int .i64 y) (yJ p xs xb n 2 3 o) 33 159 61 64;go_enter Tryz.func101,Tryz.ntmps101;go_upto_region 1 with fail;generalize (((w.alloc (.cells #[.slice a q.n c,.slice a' q.hn c'] 33)).alloc (.cells (zAT (yJ p xs xb n 2 3 o)) 159)).alloc (.cells #[.int .i64 x,.int .i64 y] 61)).alloc (.cells #[.slice none 0 0,.slice none 0 0,.int .i64 0,.int .i64 0,.slice none 0 0,.int .i64 0] 64)=W at kD ⊢;obtain⟨hB,hW,hX,hR,aD,hz⟩:=kD;have HB:=zE hB;have HW:=zE hW;have HR:=zE hR;obtain⟨⟨x0,x1⟩,⟨x2,x3⟩⟩:=hX;have fA:=zC W (.cells #[.int .i64 x,.int .i64 y] 61);have rD:=zE (show zc (W.alloc (.cells #[.int .i64 x,.int .i64 y] 61)) (w.heap.size+4) (.int .i64 x) (.int .i64 y)from hz▸zc.zRL W (.int .i64 x) (.int .i64 y) 61);clear hB hW hR;go_wp2_with fail;have fD:Hid (zRA p xs xb n (layS p xs xb n b ⟨q,x,y,0⟩) o w 0 (W.alloc (.cells #[.int .i64 x,.int .i64 y] 61))):=by
  refine⟨fun j hj=>?_,_,_,HB.out.zRJ fA,((Hp.out.zRJ aD).zRJ fA).all,fun h=>absurd h (Nat.lt_irrefl _),rD.out,HW.out.zRJ fA,HR.out.zRJ fA,by rw[World.size_alloc];omega,zA aD fA⟩;obtain rfl:j=0:=(by omega);rfl
 have kE:=zE (zGU p xs xb n b ⟨q,x,y,0⟩);clear fA rD HB HW HR x0 x1 x2 x3 aD hz
 go_loopw [15] (fun i wr=>∃k:Nat,k<=2/\i = .int .i64 k/\zRA p xs xb n (layS p xs xb n b ⟨q,x,y,0⟩) o w k wr) (fun i _=>2 - (intOf i).toNat)
 case atStart=>exact⟨0,by omega,rfl,fD.out⟩
 case round=>
  obtain⟨k,hk,rfl,vA,s0,s1,gD,rC,mD,lD,sD,oD,sE,iC⟩:=hrel;have lA:=zE vA;have pD:=zE rC;have jD:=zE mD;have bD:=zE gD;have tC:=zE lD;have eC:=zE sD;have kC:=zE oD;obtain⟨ra,rc,lC,gC,rfl,rfl⟩:=rC.form;clear vA rC mD gD lD sD oD fD;obtain⟨⟨x0,x1⟩,⟨x2,x3⟩⟩:=bD.out;obtain⟨⟨y0,y1⟩,⟨y2,y3⟩⟩:=tC.out;by_cases dE:k<2
  ·obtain⟨L,iD⟩:∃L,L=1 - k:=⟨_,rfl⟩;have hL:L<2:=(by omega);have rE:(L:Int)<2:=(by omega);have iE:(k:Int)<2:=(by omega);have bE:(1:Int) - (k:Int)=(L:Int):=(by omega);have nE:Hid (layS p xs xb n b ⟨q,x,y,0⟩ (k+1)=zJn p xs xb n b (layS p xs xb n b ⟨q,x,y,0⟩ k) L):=(by rw[iD];rfl);have aE:=zE (kE.out k);have sC:Hid ((Tryz.prog.info? 155).map (·.size)=some (zp (zB8 p xs xb n L)).size):=by
    show _=_;rw[qB];exact zBp
   have cE:Hid ((Tryz.prog.info? 155).map (·.size)=some (zp (zB8 p xs xb n L)).toList.length):=by
    show _=_;rw[zBp];simp[zp]
   clear iD;go_upto_region 7 with(first
    | (refine wpList_load_mid rfl 155 (.tmp 22) rfl (w.heap.size+1) (2+L*16) rfl (zp (zB8 p xs xb n L)).toList _ (zOC hL eC.out) zHH rfl cE.out ?_)
    | (refine wpList_store_row rfl 155 (.tmp 12) (.tmp 23) rfl wr.heap.size (zp (zB8 p xs xb n L)) rfl rfl 155 #[Value.int .i64 0,Value.int .i64 0,Value.int .i64 0,Value.int .i64 0,Value.int .i64 0,Value.int .i64 0,Value.int .i64 0,Value.int .i64 0,Value.int .i64 0,Value.int .i64 0,Value.int .i64 0,Value.int .i64 0,Value.int .i64 0,Value.int .i64 0,Value.int .i64 0,Value.int .i64 0] (heap_alloc_last _ _) sC.out (by rw[qB];rfl) (zAs _) ?_;rw[World.setRow_alloc_new]))
   have fA:=zC wr (.cells (zp (zB8 p xs xb n L)) 155);have dC:Hid ((wr.alloc (.cells (zp (zB8 p xs xb n L)) 155)).heap[wr.heap.size]?=some (.cells (zp (zB8 p xs xb n L)) 155)):=heap_alloc_last _ _;have fC:Hid (wr.heap.size<(wr.alloc (.cells (zp (zB8 p xs xb n L)) 155)).heap.size):=(by show _<_;rw[World.size_alloc];omega);have dB:=zE (pD.out.zRJ fA);have aB:=zE (bD.out.zRJ fA);have mA:=zE (tC.out.zRJ fA);have nA:=zE (eC.out.zRJ fA);have bB:=zE (kC.out.zRJ fA);have rA:=zA iC fA;clear x0 x1 x2 x3 y0 y1 y2 y3 fA iC pD jD bD tC eC kC;generalize wr.alloc (.cells (zp (zB8 p xs xb n L)) 155)=wA at dC fC dB aB mA nA bB rA ⊢;have mE:=zIT (n:=n) (L:=L) hn;have vD:((plc n L:Nat):Int)<8:=(by omega);obtain⟨⟨y0,y1⟩,⟨y2,y3⟩⟩:=mA.out;obtain⟨z0,_⟩:=nA.out L (by omega);rw[zH1 p xs xb n _ _ _ hL]at z0;obtain⟨c0,c1⟩:=zI (i:=plc n L*2) dC.out (yQ (zB8 p xs xb n L) (by omega));obtain⟨c2,c3⟩:=zI (i:=plc n L*2+1) dC.out (yQ (zB8 p xs xb n L) (by omega));have tA:Hid (∀(u v:Value) (w5:World),w5=((wA.drew.setCell ⟨wr.heap.size,plc n L*2,none⟩ u).setCell ⟨wr.heap.size,plc n L*2+1,none⟩ v)->(w5.cell? ⟨w.heap.size+1,L,none⟩=some (.int .i64 ((plc n L:Nat):Int))/\w5.cell? ⟨w.heap.size+4,0,none⟩=some (.int .i64 (layS p xs xb n b ⟨q,x,y,0⟩ k).ps)/\w5.cell? ⟨w.heap.size+4,1,none⟩=some (.int .i64 (layS p xs xb n b ⟨q,x,y,0⟩ k).pb))):=by
    intro u v w5 e5;have hT:zF (fun k=>k=wr.heap.size) wA.drew ((wA.drew.setCell ⟨wr.heap.size,plc n L*2,none⟩ u).setCell ⟨wr.heap.size,plc n L*2+1,none⟩ v):=((zF.refl (fun k=>k=wr.heap.size) wA.drew).setCell (p:=⟨wr.heap.size,plc n L*2,none⟩) rfl _).setCell (p:=⟨wr.heap.size,plc n L*2+1,none⟩) rfl _;have dD:wr.heap.size<wA.drew.heap.size:=fC.out;rw[e5,hT.cell (by omega) (by omega),hT.cell (by omega) (by omega),hT.cell (by omega) (by omega)];exact⟨z0,y0,y2⟩
   simp only[Act.put];refine wp_region_held_drew (S:=(fun w'=>w'.cell? ⟨w.heap.size+1,L,none⟩=some (.int .i64 ((plc n L:Nat):Int))/\w'.cell? ⟨w.heap.size+4,0,none⟩=some (.int .i64 (layS p xs xb n b ⟨q,x,y,0⟩ k).ps)/\w'.cell? ⟨w.heap.size+4,1,none⟩=some (.int .i64 (layS p xs xb n b ⟨q,x,y,0⟩ k).pb))) (by kernel_rfl) ?_ (fun hHeld=>?_)
   ·(try dsimp only)
    go_keep
   refine wpAnyH_take (i:=0) (oi:=({dst:=some 24,op:=Op.move (Operand.tmp 11),type:=3,pos:= "l02_tree.go:185",after:=#[],guard:=none}:Oper)) (v:=?_) rfl (by kernel_rfl) (by kernel_rfl) (by kernel_rfl) (fun _ _ _ h=>h) (Or.inl ⟨by rfl,?_⟩) (by assumption) ?_;rotate_left
   ·(intro w bA;(try dsimp only at bA);go_simp;try with_reducible rfl)
   try simp only[Act.put,List.setIfInBounds_toArray,List.set_cons_zero,List.set_cons_succ]
   refine wpAnyH_take (i:=1) (oi:=({dst:=some 25,op:=Op.fieldAddr 159 (Operand.tmp 5) 0,type:=0,pos:= "l02_tree.go:185",after:=#[],guard:=none}:Oper)) (v:=?_) rfl (by kernel_rfl) (by kernel_rfl) (by kernel_rfl) (fun _ _ _ h=>h) (Or.inl ⟨by rfl,?_⟩) (by assumption) ?_;rotate_left
   ·(intro w bA;(try dsimp only at bA);go_simp;try with_reducible rfl)
   try simp only[Act.put,List.setIfInBounds_toArray,List.set_cons_zero,List.set_cons_succ]
   refine wpAnyH_take (i:=2) (oi:=({dst:=some 26,op:=Op.indexAddr 154 (Operand.tmp 25) (Operand.tmp 24),type:=0,pos:= "l02_tree.go:185",after:=#[{on:=1,ground:=Ground.data},{on:=0,ground:=Ground.data}],guard:=none}:Oper)) (v:=?_) rfl (by kernel_rfl) (by kernel_rfl) (by kernel_rfl) (fun _ _ _ h=>h) (Or.inl ⟨by rfl,?_⟩) (by assumption) ?_;rotate_left
   ·(intro w bA;(try dsimp only at bA);go_simp;try with_reducible rfl)
   try simp only[Act.put,List.setIfInBounds_toArray,List.set_cons_zero,List.set_cons_succ]
   refine wpAnyH_take (i:=3) (oi:=({dst:=some 27,op:=Op.load 2 (Operand.tmp 26),type:=2,pos:= "l02_tree.go:185",after:=#[{on:=2,ground:=Ground.data}],guard:=none}:Oper)) (v:=?_) rfl (by kernel_rfl) (by kernel_rfl) (by kernel_rfl) (fun _ _ _ h=>h) (Or.inl ⟨by rfl,?_⟩) (by assumption) ?_;rotate_left
   ·(intro w bA;(try dsimp only at bA);go_simp;try with_reducible rfl)
   try simp only[Act.put,List.setIfInBounds_toArray,List.set_cons_zero,List.set_cons_succ]
   refine wpAnyH_take (i:=4) (oi:=({dst:=some 28,op:=Op.load 61 (Operand.tmp 9),type:=61,pos:= "l02_tree.go:185",after:=#[],guard:=none}:Oper)) (v:=?_) rfl (by kernel_rfl) (by kernel_rfl) (by kernel_rfl) (fun _ _ _ h=>h) (Or.inl ⟨by rfl,?_⟩) (by assumption) ?_;rotate_left
   ·(intro w bA;(try dsimp only at bA);go_simp;try with_reducible rfl)
   try simp only[Act.put,List.setIfInBounds_toArray,List.set_cons_zero,List.set_cons_succ]
   refine wpAnyH_take (i:=5) (oi:=({dst:=some 29,op:=Op.indexAddr 155 (Operand.tmp 12) (Operand.tmp 27),type:=0,pos:= "l02_tree.go:185",after:=#[{on:=3,ground:=Ground.data},{on:=0,ground:=Ground.phase},{on:=1,ground:=Ground.phase},{on:=2,ground:=Ground.phase},{on:=3,ground:=Ground.phase},{on:=4,ground:=Ground.phase}],guard:=none}:Oper)) (v:=?_) rfl (by kernel_rfl) (by kernel_rfl) (by kernel_rfl) (fun _ _ _ h=>h) (Or.inl ⟨by rfl,?_⟩) (by assumption) ?_;rotate_left
   ·(intro w bA;(try dsimp only at bA);go_simp;try with_reducible rfl)
   try simp only[Act.put,List.setIfInBounds_toArray,List.set_cons_zero,List.set_cons_succ]
   refine wpAnyH_ready (rs:=[6]) (by kernel_rfl) (by simp) ?_;refine AllReadyH.cons (o:=({dst:=none,op:=Op.store 61 (Operand.tmp 29) (Operand.tmp 28),type:=0,pos:= "l02_tree.go:185",after:=#[{on:=5,ground:=Ground.data},{on:=4,ground:=Ground.data},{on:=0,ground:=Ground.phase},{on:=1,ground:=Ground.phase},{on:=2,ground:=Ground.phase},{on:=3,ground:=Ground.phase},{on:=4,ground:=Ground.phase}],guard:=none}:Oper)) rfl (fun K hK=>?_) AllReadyH.nil;go_simp
   (try go_wp2_with fail)
   refine hK.out _ _ ?_ (fun aA=>?_)
   ·(try dsimp only)
    exact tA.out _ _ _ rfl
   clear hK K hHeld;have hHeld:=aA;clear aA
   try simp only[Act.put,List.setIfInBounds_toArray,List.set_cons_zero,List.set_cons_succ]
   refine wpAnyH_done (by kernel_rfl) ?_ _;have hT:zF (fun k=>k=wr.heap.size) wA ((wA.setCell ⟨wr.heap.size,plc n L*2,none⟩ (.int .i64 (layS p xs xb n b ⟨q,x,y,0⟩ k).ps)).setCell ⟨wr.heap.size,plc n L*2+1,none⟩ (.int .i64 (layS p xs xb n b ⟨q,x,y,0⟩ k).pb)).drew:=by
    have h:zF (fun k=>k=wr.heap.size) wA ((wA.setCell ⟨wr.heap.size,plc n L*2,none⟩ (.int .i64 (layS p xs xb n b ⟨q,x,y,0⟩ k).ps)).setCell ⟨wr.heap.size,plc n L*2+1,none⟩ (.int .i64 (layS p xs xb n b ⟨q,x,y,0⟩ k).pb)):=((zF.refl (fun k=>k=wr.heap.size) wA).setCell (p:=⟨wr.heap.size,plc n L*2,none⟩) rfl _).setCell (p:=⟨wr.heap.size,plc n L*2+1,none⟩) rfl _;exact⟨h.os,h.tape,h.output,h.size,h.block⟩
   have jB:Hid (((wA.setCell ⟨wr.heap.size,plc n L*2,none⟩ (.int .i64 (layS p xs xb n b ⟨q,x,y,0⟩ k).ps)).setCell ⟨wr.heap.size,plc n L*2+1,none⟩ (.int .i64 (layS p xs xb n b ⟨q,x,y,0⟩ k).pb)).drew.heap[wr.heap.size]?=some (.cells (zp (mix (qL p xs xb n L (layS p xs xb n b ⟨q,x,y,0⟩ k).ps) (qK p xs xb n L (layS p xs xb n b ⟨q,x,y,0⟩ k).pb))) 155 (0,0))):=by
    have:=zAV (o:=plc n L*2+1) (.int .i64 (layS p xs xb n b ⟨q,x,y,0⟩ k).pb) (zAV (o:=plc n L*2) (.int .i64 (layS p xs xb n b ⟨q,x,y,0⟩ k).ps) dC.out);rw[zJV _ _ mE,zQE p xs xb n L _ _ hn]at this;exact this
   have dD:=fC.out;have mB:=zE (dB.out.same (hT.same (lo:=0) (hi:=wr.heap.size) (by omega) (by intro k hk;omega)));have pA:=zE (aB.out.zRR hT (by omega));have gB:=zE (mA.out.zRR hT (by omega));have eB:=zE (nA.out.zRR hT (by omega));have iB:=zE (bB.out.zRR hT (by omega));have lB:=rA.trans (hT.zRJ (B:=w.heap.size) rA.size (by intro k hk;omega));have eE:=Nat.lt_of_lt_of_le dD hT.size;clear hT dD dB aB mA nA bB rA dC fC tA y0 y1 y2 y3 z0 c0 c1 c2 c3;generalize ((wA.setCell ⟨wr.heap.size,plc n L*2,none⟩ (.int .i64 (layS p xs xb n b ⟨q,x,y,0⟩ k).ps)).setCell ⟨wr.heap.size,plc n L*2+1,none⟩ (.int .i64 (layS p xs xb n b ⟨q,x,y,0⟩ k).pb)).drew=wB at jB mB pA gB eB iB lB eE ⊢;have sB:Hid ((Tryz.prog.info? 155).map (·.size)=some (zp (mix (qL p xs xb n L (layS p xs xb n b ⟨q,x,y,0⟩ k).ps) (qK p xs xb n L (layS p xs xb n b ⟨q,x,y,0⟩ k).pb))).size):=by
    show _=_;rw[qB];exact zBp
   obtain⟨⟨x0,x1⟩,⟨x2,x3⟩⟩:=pA.out;go_wp2_with (first
    | (refine wpList_load_row rfl 155 (.tmp 12) rfl wr.heap.size rfl 155 (zp (mix (qL p xs xb n L (layS p xs xb n b ⟨q,x,y,0⟩ k).ps) (qK p xs xb n L (layS p xs xb n b ⟨q,x,y,0⟩ k).pb))) (0,0) _ jB.out zHH rfl sB.out ?_)
    | fail)
   refine(zJ0 _ _ 0 wr.heap.size (layS p xs xb n b ⟨q,x,y,0⟩ k).zRQ _ _ b wB mB.out (by have h1:=aE.out;have h2:=Hq.out;have h3:qD (zDk.mk q x y 0).zRQ=qD q:=rfl;omega)).mono ?_;rintro e wC ⟨t0,t1,rfl,nC,eD⟩;have fB:Hid (layS p xs xb n b ⟨q,x,y,0⟩ (k+1)=zEy (layS p xs xb n b ⟨q,x,y,0⟩ k).zRQ (qL p xs xb n L (layS p xs xb n b ⟨q,x,y,0⟩ k).ps) (qK p xs xb n L (layS p xs xb n b ⟨q,x,y,0⟩ k).pb) b):=nE.out;generalize zEy (layS p xs xb n b ⟨q,x,y,0⟩ k).zRQ (qL p xs xb n L (layS p xs xb n b ⟨q,x,y,0⟩ k).ps) (qK p xs xb n L (layS p xs xb n b ⟨q,x,y,0⟩ k).pb) b=od at nC fB ⊢;obtain⟨ta,tc,cA,dA,rfl,rfl⟩:=nC.form;have cB:=zC wC (.cells #[.slice ta od.zRQ.n tc,.slice cA od.zRQ.hn dA,.int .i64 od.ps,.int .i64 od.pb,.int .i64 od.code] 151);have oB:=zA eD cB;have jC:=zE (nC.zRJ cB);have mC:=zE (zFW.zRL wC (.slice ta od.zRQ.n tc) (.slice cA od.zRQ.hn dA) (.int .i64 od.ps) (.int .i64 od.pb) (.int .i64 od.code) 151);have oA:=zE (pA.out.zRJ oB);have sA:=zE (gB.out.zRJ oB);have kB:=zE (eB.out.zRJ oB);have kA:=zE (iB.out.zRJ oB);have gA:=zA lB oB;have jE:=eD.size;have nB:wC.heap.size<(wC.alloc (.cells #[.slice ta od.zRQ.n tc,.slice cA od.zRQ.hn dA,.int .i64 od.ps,.int .i64 od.pb,.int .i64 od.code] 151)).heap.size:=(by rw[World.size_alloc];omega);clear nC eD cB oB x0 x1 x2 x3 jB mB pA gB eB iB lB;go_upto_region 9 with fail;generalize wC.alloc (.cells #[.slice ta od.zRQ.n tc,.slice cA od.zRQ.hn dA,.int .i64 od.ps,.int .i64 od.pb,.int .i64 od.code] 151)=wD at jC mC oA sA kB kA gA nB ⊢;generalize wC.heap.size=T at jC mC jE nB ⊢;obtain⟨⟨t0,t1⟩,⟨t2,t3⟩,⟨t4,t5⟩,⟨t6,t7⟩,⟨t8,t9⟩⟩:=mC.out;by_cases hc:od.code=0
   ·have oE:(od.code != 0)=false:=(by simp[hc]);have Hc:=zE hc;clear hc;go_upto_region 11 with fail;obtain⟨⟨x0,x1⟩,⟨x2,x3⟩⟩:=oA.out;obtain⟨⟨y0,y1⟩,⟨y2,y3⟩⟩:=sA.out;have pE:w.heap.size≠w.heap.size+4:=(by omega);have eA:Hid (∀(u v:Value) (w5:World),w5=((wD.drew.setCell ⟨w.heap.size,0,none⟩ u).setCell ⟨w.heap.size,1,none⟩ v)->(w5.cell? ⟨T,0,none⟩=some (.slice ta od.zRQ.n tc)/\w5.cell? ⟨T,1,none⟩=some (.slice cA od.zRQ.hn dA)/\w5.cell? ⟨T,2,none⟩=some (.int .i64 od.ps)/\w5.cell? ⟨T,3,none⟩=some (.int .i64 od.pb))):=by
     intro u v w5 e5;have nD:T<wD.drew.heap.size:=nB;have h:=fun o=>(qm wD.drew w.heap.size u v).cell (b:=T) (o:=o) nD (by omega)
     rw[e5,h,h,h,h];exact⟨t0,t2,t4,t6⟩
    have jA:Hid (∀(u v u' v':Value) (w5:World),w5=((((wD.drew.setCell ⟨w.heap.size,0,none⟩ u).setCell ⟨w.heap.size,1,none⟩ v).setCell ⟨w.heap.size+4,0,none⟩ u').setCell ⟨w.heap.size+4,1,none⟩ v')->(w5.cell? ⟨T,0,none⟩=some (.slice ta od.zRQ.n tc)/\w5.cell? ⟨T,1,none⟩=some (.slice cA od.zRQ.hn dA)/\w5.cell? ⟨T,2,none⟩=some (.int .i64 od.ps)/\w5.cell? ⟨T,3,none⟩=some (.int .i64 od.pb))):=by
     intro u v u' v' w5 e5;have nD:T<wD.drew.heap.size:=nB;have h1:=fun o=>(qm ((wD.drew.setCell ⟨w.heap.size,0,none⟩ u).setCell ⟨w.heap.size,1,none⟩ v) (w.heap.size+4) u' v').cell (b:=T) (o:=o) (by simp;exact nB) (by omega)
     rw[e5,h1,h1,h1,h1];exact eA.out u v _ rfl
    refine wp_region_held_drew (S:=(fun w'=>w'.cell? ⟨T,0,none⟩=some (.slice ta od.zRQ.n tc)/\w'.cell? ⟨T,1,none⟩=some (.slice cA od.zRQ.hn dA)/\w'.cell? ⟨T,2,none⟩=some (.int .i64 od.ps)/\w'.cell? ⟨T,3,none⟩=some (.int .i64 od.pb))) (by kernel_rfl) ?_ (fun hHeld=>?_)
    ·(try dsimp only)
     go_keep
    refine wpAnyH_take (i:=0) (oi:=({dst:=some 40,op:=Op.fieldAddr 151 (Operand.tmp 13) 0,type:=0,pos:= "l02_tree.go:190",after:=#[],guard:=none}:Oper)) (v:=?_) rfl (by kernel_rfl) (by kernel_rfl) (by kernel_rfl) (fun _ _ _ h=>h) (Or.inl ⟨by rfl,?_⟩) (by assumption) ?_;rotate_left
    ·(intro w bA;(try dsimp only at bA);go_simp;try with_reducible rfl)
    try simp only[Act.put,List.setIfInBounds_toArray,List.set_cons_zero,List.set_cons_succ]
    refine wpAnyH_take (i:=2) (oi:=({dst:=some 42,op:=Op.fieldAddr 151 (Operand.tmp 13) 1,type:=0,pos:= "l02_tree.go:190",after:=#[{on:=4,ground:=Ground.gcOnly Departure.lateStores}],guard:=none}:Oper)) (v:=?_) rfl (by kernel_rfl) (by kernel_rfl) (by kernel_rfl) (fun _ _ _ h=>h) (Or.inl ⟨by rfl,?_⟩) (by assumption) ?_;rotate_left
    ·(intro w bA;(try dsimp only at bA);go_simp;try with_reducible rfl)
    try simp only[Act.put,List.setIfInBounds_toArray,List.set_cons_zero,List.set_cons_succ]
    refine wpAnyH_take (i:=1) (oi:=({dst:=some 41,op:=Op.load 33 (Operand.tmp 40),type:=33,pos:= "l02_tree.go:190",after:=#[{on:=0,ground:=Ground.data}],guard:=none}:Oper)) (v:=?_) rfl (by kernel_rfl) (by kernel_rfl) (by kernel_rfl) (fun _ _ _ h=>h) (Or.inl ⟨by rfl,?_⟩) (by assumption) ?_;rotate_left
    ·(intro w bA;(try dsimp only at bA);go_simp;try with_reducible rfl)
    try simp only[Act.put,List.setIfInBounds_toArray,List.set_cons_zero,List.set_cons_succ]
    refine wpAnyH_take (i:=3) (oi:=({dst:=some 43,op:=Op.load 61 (Operand.tmp 42),type:=61,pos:= "l02_tree.go:190",after:=#[{on:=2,ground:=Ground.data},{on:=4,ground:=Ground.gcOnly Departure.lateStores}],guard:=none}:Oper)) (v:=?_) rfl (by kernel_rfl) (by kernel_rfl) (by kernel_rfl) (fun _ _ _ h=>h) (Or.inl ⟨by rfl,?_⟩) (by assumption) ?_;rotate_left
    ·(intro w bA;(try dsimp only at bA);go_simp;try with_reducible rfl)
    try simp only[Act.put,List.setIfInBounds_toArray,List.set_cons_zero,List.set_cons_succ]
    refine wpAnyH_ready (rs:=[4]) (by kernel_rfl) (by simp) ?_;refine AllReadyH.cons (o:=({dst:=none,op:=Op.store 33 (Operand.tmp 4) (Operand.tmp 41),type:=0,pos:= "l02_tree.go:190",after:=#[{on:=1,ground:=Ground.data},{on:=0,ground:=Ground.phase},{on:=1,ground:=Ground.phase},{on:=2,ground:=Ground.textOnly Departure.lateStores},{on:=3,ground:=Ground.textOnly Departure.lateStores}],guard:=none}:Oper)) rfl (fun K hK=>?_) AllReadyH.nil;go_simp
    (try go_wp2_with fail)
    refine hK.out _ _ ?_ (fun aA=>?_)
    ·(try dsimp only)
     exact eA.out _ _ _ rfl
    clear hK K hHeld;have hHeld:=aA;clear aA
    try simp only[Act.put,List.setIfInBounds_toArray,List.set_cons_zero,List.set_cons_succ]
    refine wpAnyH_ready (rs:=[5]) (by kernel_rfl) (by simp) ?_;refine AllReadyH.cons (o:=({dst:=none,op:=Op.store 61 (Operand.tmp 9) (Operand.tmp 43),type:=0,pos:= "l02_tree.go:190",after:=#[{on:=3,ground:=Ground.data},{on:=4,ground:=Ground.chain},{on:=0,ground:=Ground.phase},{on:=1,ground:=Ground.phase},{on:=2,ground:=Ground.phase},{on:=3,ground:=Ground.phase},{on:=4,ground:=Ground.phase}],guard:=none}:Oper)) rfl (fun K hK=>?_) AllReadyH.nil;go_simp
    (try go_wp2_with fail)
    refine hK.out _ _ ?_ (fun aA=>?_)
    ·(try dsimp only)
     exact jA.out _ _ _ _ _ rfl
    clear hK K hHeld;have hHeld:=aA;clear aA
    try simp only[Act.put,List.setIfInBounds_toArray,List.set_cons_zero,List.set_cons_succ]
    refine wpAnyH_done (by kernel_rfl) ?_ _;have pB:zF (fun k=>k=w.heap.size\/k=w.heap.size+4) wD ((((wD.setCell ⟨w.heap.size,0,none⟩ (.slice ta od.zRQ.n tc)).setCell ⟨w.heap.size,1,none⟩ (.slice cA od.zRQ.hn dA)).setCell ⟨w.heap.size+4,0,none⟩ (.int .i64 od.ps)).setCell ⟨w.heap.size+4,1,none⟩ (.int .i64 od.pb)).drew:=by
     have h:=((qm wD w.heap.size (.slice ta od.zRQ.n tc) (.slice cA od.zRQ.hn dA)).mono (T:=fun k=>k=w.heap.size\/k=w.heap.size+4) (fun k hk=>Or.inl hk)).trans ((qm ((wD.setCell ⟨w.heap.size,0,none⟩ (.slice ta od.zRQ.n tc)).setCell ⟨w.heap.size,1,none⟩ (.slice cA od.zRQ.hn dA)) (w.heap.size+4) (.int .i64 od.ps) (.int .i64 od.pb)).mono (T:=fun k=>k=w.heap.size\/k=w.heap.size+4) (fun k hk=>Or.inr hk));exact⟨h.os,h.tape,h.output,h.size,h.block⟩
    have vB:Hid (zc ((((wD.setCell ⟨w.heap.size,0,none⟩ (.slice ta od.zRQ.n tc)).setCell ⟨w.heap.size,1,none⟩ (.slice cA od.zRQ.hn dA)).setCell ⟨w.heap.size+4,0,none⟩ (.int .i64 od.ps)).setCell ⟨w.heap.size+4,1,none⟩ (.int .i64 od.pb)).drew w.heap.size (.slice ta od.zRQ.n tc) (.slice cA od.zRQ.hn dA)):=by
     have cD:=qm ((wD.setCell ⟨w.heap.size,0,none⟩ (.slice ta od.zRQ.n tc)).setCell ⟨w.heap.size,1,none⟩ (.slice cA od.zRQ.hn dA)) (w.heap.size+4) (.int .i64 od.ps) (.int .i64 od.pb);have vC:=(oA.out.put (.slice ta od.zRQ.n tc) (.slice cA od.zRQ.hn dA)).zRR cD (by omega);exact vC
    have bC:Hid (zc ((((wD.setCell ⟨w.heap.size,0,none⟩ (.slice ta od.zRQ.n tc)).setCell ⟨w.heap.size,1,none⟩ (.slice cA od.zRQ.hn dA)).setCell ⟨w.heap.size+4,0,none⟩ (.int .i64 od.ps)).setCell ⟨w.heap.size+4,1,none⟩ (.int .i64 od.pb)).drew (w.heap.size+4) (.int .i64 od.ps) (.int .i64 od.pb)):=by
     have cD:=qm wD w.heap.size (.slice ta od.zRQ.n tc) (.slice cA od.zRQ.hn dA);have vC:=(sA.out.zRR cD (by omega)).put (.int .i64 od.ps) (.int .i64 od.pb);exact vC
    have oC:=zE ((jC.out.zRR pB (fun k hk=>by rcases hk with h | h<;>omega)).zRO (lo':=w.heap.size+5) (hi':=T) (by omega) (Nat.le_refl _));have tB:=zE (kB.out.zRR pB (by omega));have aC:=zE (kA.out.zRR pB (by omega));have cC:=gA.trans (pB.zRJ (B:=w.heap.size) gA.size (fun k hk=>by rcases hk with h | h<;>omega));have gE:=Nat.lt_of_lt_of_le nB pB.size;clear pB oA sA jC kB kA gA eA jA mC t0 t1 t2 t3 t4 t5 t6 t7 t8 t9 x0 x1 x2 x3 y0 y1 y2 y3;generalize ((((wD.setCell ⟨w.heap.size,0,none⟩ (.slice ta od.zRQ.n tc)).setCell ⟨w.heap.size,1,none⟩ (.slice cA od.zRQ.hn dA)).setCell ⟨w.heap.size+4,0,none⟩ (.int .i64 od.ps)).setCell ⟨w.heap.size+4,1,none⟩ (.int .i64 od.pb)).drew=wE at vB bC oC tB aC cC gE ⊢;go_wp2;go_roundw
    case rel=>
     refine⟨k+1,by omega,by go_num,fun j hj=>?_,.slice ta od.zRQ.n tc,.slice cA od.zRQ.hn dA,vB.out,?_,fun _=>?_,?_,tB.out,aC.out,by omega,cC⟩
     ·by_cases e:j=k+1
      ·rw[e,fB.out];exact Hc.out
      ·exact lA.out j (by omega)
     ·rw[fB.out];exact oC.out.at.all
     ·rw[fB.out];exact oC.out.zRO (Nat.le_refl _) (by omega)
     ·rw[fB.out];exact bC.out
    case measure=>simp[intOf];omega
   ·have oE:(od.code != 0)=true:=(by simp[hc]);have Hc:=zE hc;clear hc;obtain⟨⟨r0,r1⟩,⟨r2,r3⟩,⟨r4,r5⟩,⟨r6,r7⟩,⟨r8,r9⟩,⟨lE,fE⟩⟩:=kA.out;go_wp2;have iA:=kA.out.put (.slice none 0 0) (.slice none 0 0) (.int .i64 0) (.int .i64 0) (.slice none 0 0) (.int .i64 od.code);have rB:=zF.put6 wD (w.heap.size+1+1+1) (.slice none 0 0) (.slice none 0 0) (.int .i64 0) (.int .i64 0) (.slice none 0 0) (.int .i64 od.code);have pC:=zJz dE lA.out (by rw[fB.out];exact Hc.out);rw[fB.out]at pC;refine bodyPost_ret (v:=.agg #[.slice none 0 0,.slice none 0 0,.int .i64 0,.int .i64 0,.slice none 0 0,.int .i64 od.code]) (by simp[results,Tryz.results101,go_sem,iA.1.1,iA.2.1.1,iA.2.2.1.1,iA.2.2.2.1.1,iA.2.2.2.2.1.1,iA.2.2.2.2.2.1]) rfl (Or.inl ⟨?_,?_,?_⟩)
    ·rw[pC];exact Hc.out
    ·rw[pC];rfl
    ·exact gA.trans (rB.zRJ (B:=w.heap.size) gA.size (by intro k hk;omega))
  ·obtain rfl:k=2:=(by omega);obtain⟨oa,oc,ho,_⟩:=zW Hr.out;have Ho:=zE ho;obtain⟨tD,_⟩:=eC.out 40 (by omega);rw[zPC,ho]at tD;clear ho;obtain⟨⟨r0,r1⟩,⟨r2,r3⟩,⟨r4,r5⟩,⟨r6,r7⟩,⟨r8,r9⟩,⟨lE,fE⟩⟩:=kC.out;go_wp2;have iA:=kC.out.put (.slice ra (layS p xs xb n b ⟨q,x,y,0⟩ 2).zRQ.n rc) (.slice lC (layS p xs xb n b ⟨q,x,y,0⟩ 2).zRQ.hn gC) (.int .i64 (layS p xs xb n b ⟨q,x,y,0⟩ 2).ps) (.int .i64 (layS p xs xb n b ⟨q,x,y,0⟩ 2).pb) (.slice oa (qf p xs xb n 3).length oc) (.int .i64 0);have rB:=zF.put6 wr (w.heap.size+1+1+1) (.slice ra (layS p xs xb n b ⟨q,x,y,0⟩ 2).zRQ.n rc) (.slice lC (layS p xs xb n b ⟨q,x,y,0⟩ 2).zRQ.hn gC) (.int .i64 (layS p xs xb n b ⟨q,x,y,0⟩ 2).ps) (.int .i64 (layS p xs xb n b ⟨q,x,y,0⟩ 2).pb) (.slice oa (qf p xs xb n 3).length oc) (.int .i64 0);refine bodyPost_ret (v:=.agg #[.slice ra (layS p xs xb n b ⟨q,x,y,0⟩ 2).zRQ.n rc,.slice lC (layS p xs xb n b ⟨q,x,y,0⟩ 2).zRQ.hn gC,.int .i64 (layS p xs xb n b ⟨q,x,y,0⟩ 2).ps,.int .i64 (layS p xs xb n b ⟨q,x,y,0⟩ 2).pb,.slice oa (qf p xs xb n 3).length oc,.int .i64 0]) (by simp[results,Tryz.results101,go_sem,iA.1.1,iA.2.1.1,iA.2.2.1.1,iA.2.2.2.1.1,iA.2.2.2.2.1.1,iA.2.2.2.2.2.1]) rfl (Or.inr ⟨?_,.slice ra (layS p xs xb n b ⟨q,x,y,0⟩ 2).zRQ.n rc,.slice lC (layS p xs xb n b ⟨q,x,y,0⟩ 2).zRQ.hn gC,?_,?_,?_⟩)
   ·rw[zIJ lA.out]
   ·rw[<-Ho.out]
   ·exact((jD.out (by omega)).zRR rB (by intro k hk;omega)).zRO (by omega) (by exact rB.size)
   ·exact iC.trans (rB.zRJ (B:=w.heap.size) iC.size (by intro k hk;omega))
theorem zFy(v0 v1:Value)(lo hi:Nat)(p:zJ)(xs xb:Int)(w:World)(h1:zy w lo hi v0 v1 p) :
  Calls Tryz.prog 97 #[.agg #[v0,v1],.agg #[.int .i64 xs,.int .i64 xb]] w fun e w'=>zG (yk p xs xb) e/\Below w.heap.size w w':=by
 have Hp:=zE h1;obtain⟨a,c,a',c',rfl,rfl⟩:∃a c a' c',v0 = .slice a p.n c/\v1 = .slice a' p.hn c':=by
  obtain⟨⟨_,a,c,h1,_⟩,⟨_,a',c',h3,_⟩⟩:=h1;exact⟨a,c,a',c',h1,h3⟩
 clear h1;have fA:=zBq w (.slice a p.n c) (.slice a' p.hn c') (.int .i64 xs) (.int .i64 xb) 33 61;go_enter Tryz.func97,Tryz.ntmps97;go_wp2_with fail;generalize (w.alloc (.cells #[.slice a p.n c,.slice a' p.hn c'] 33)).alloc (.cells #[.int .i64 xs,.int .i64 xb] 61)=W at fA ⊢;obtain⟨hB,hX,bA,hz⟩:=fA;refine(zAC _ _ lo hi p _ (Hp.out.zRJ bA)).mono ?_;rintro e w1 ⟨⟨t,rfl,ht⟩,aA⟩;have gA:=zE (hB.zRJ aA);have jA:=zE (hX.zRJ aA);have cA:=zA bA aA;clear hB hX bA aA;by_cases hR:zv p
 ·obtain rfl:t=true:=ht.2 hR;have HR:=zE hR;clear ht hR;obtain⟨⟨x0,x1⟩,⟨x2,x3⟩⟩:=gA.out;obtain⟨⟨y0,y1⟩,⟨y2,y3⟩⟩:=jA.out;go_wp2_with fail;refine(zE1 _ _ lo hi p xs xb _ (Hp.out.zRJ cA) HR.out).mono ?_;rintro e w2 ⟨⟨t2,rfl,dA⟩,eA⟩;have HT:=zE dA;have iA:=zA cA eA;clear dA eA x0 x1 x2 x3 y0 y1 y2 y3;go_wp2;go_ret;exact⟨⟨t2,rfl,HT.out.trans ((zFs HR.out).trans ⟨fun h=>⟨HR.out,h⟩,fun h=>h.2⟩)⟩,iA⟩
 ·obtain rfl:t=false:=zQ ht hR;have HR:=zE hR;clear ht hR;go_wp2;go_ret;exact⟨zG.no fun h=>HR.out h.1,cA⟩
def zDU(n:Int):Prop:=0<=n/\n<=63
theorem zE4(n:Int)(w:World):Calls Tryz.prog 80 #[.int .i64 n] w fun e w'=>zG (zDU n) e/\w'=w:=by
 by_cases h1:0<=n
 ·by_cases h2:n<=63
  ·go_enter Tryz.func80,Tryz.ntmps80;go_wp2;go_ret;exact⟨zG.yes ⟨h1,h2⟩,rfl⟩
  ·go_enter Tryz.func80,Tryz.ntmps80;go_wp2;go_ret;exact⟨zG.no fun h=>by have:=h.2;omega,rfl⟩
 ·go_enter Tryz.func80,Tryz.ntmps80;go_wp2;go_ret;exact⟨zG.no fun h=>by have:=h.1;omega,rfl⟩
theorem zEQ(n:Int)(w:World):Calls Tryz.prog 99 #[.int .i64 n] w fun e w'=>zG (zDU n) e/\w'=w:=by
 by_cases h1:0<=n
 ·by_cases h2:n<64
  ·go_enter Tryz.func99,Tryz.ntmps99;go_wp2;go_ret;exact⟨zG.yes ⟨h1,by omega⟩,rfl⟩
  ·go_enter Tryz.func99,Tryz.ntmps99;go_wp2;go_ret;exact⟨zG.no fun h=>by have:=h.2;omega,rfl⟩
 ·go_enter Tryz.func99,Tryz.ntmps99;go_wp2;go_ret;exact⟨zG.no fun h=>by have:=h.1;omega,rfl⟩
end Go.Proofs.YtmgeglgboadfiaaGreatDoor
