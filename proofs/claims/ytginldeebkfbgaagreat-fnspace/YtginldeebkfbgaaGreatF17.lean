/- A part of the proof. -/
import Derived.Test.YtginldeebkfbgaaGreatF16
set_option linter.unusedVariables false
set_option maxRecDepth 20000
set_option maxHeartbeats 4000000
namespace Go.Proofs.YtginldeebkfbgaaGreat
open Go.RowKit Go.Maps
def zS3(n:Nat)(f:Nat->yY):Prop:=∀i,i<n->(Lit.int .i64 (f i).id).wf=true
theorem zD1(v0 v1 v2 v3:Value)(lo hi:Nat)(W:zB)(w:World)(h:ye w lo hi v0 v1 v2 v3 W)(hn:W.pn<=20)(tA:zS3 W.pn W.zbg) :
  Calls Tryz.prog 51 #[zAY v0 v1 v2 v3 W] w fun e w'=>∃vd,e = .returned (.map (some (w.heap.size+1)))/\zD3 w' W (w.heap.size+1) W.pn vd/\zHO w lo hi W.pn W.zbg vd/\Below w.heap.size w w':=by
 have Hp:=zC h;have eB:=zC tA;obtain⟨m1,a,c,rfl,mc,-⟩:=id h.zbg;unfold maxLen at m1;obtain⟨vd,sA,oA⟩:=h.zbg.vals;have bB:=zC sA;have aB:=zC oA;clear h sA oA tA;have ha:=zD w (.cells #[v0,v1,.int .i64 W.time,.int .i64 W.next,v2,.slice a W.pn c] 30);have HB:=zC (zAb.new w v0 v1 (.int .i64 W.time) (.int .i64 W.next) v2 (.slice a W.pn c) 30);have kA:(w.alloc (.cells #[v0,v1,.int .i64 W.time,.int .i64 W.next,v2,.slice a W.pn c] 30)).heap.size=w.heap.size+1:=World.size_alloc _ _;have hm:=World.ownsMap_made (w.alloc (.cells #[v0,v1,.int .i64 W.time,.int .i64 W.next,v2,.slice a W.pn c] 30)) Tryz.prog 2 zCz;rw[kA]at hm;have HM:=zC hm;have lA:=zC (HB.out.zbd (zD _ (.map #[] 0)));have mA:=zC (zA ha (zD _ (.map #[] 0)));have iB:=@run_makeMap Tryz.prog;obtain⟨x0,x2,x4,x6,x8,gB⟩:=lA.out.c;clear hm;go_enter Tryz.func51,Tryz.ntmps51;go_wp2;clear x0 x2 x4 x6 x8 gB ha
 go_loopw [10] (fun i wr=>∃k:Nat,k<=W.pn/\i = .int .i64 k/\zD3 wr W (w.heap.size+1) k vd/\Below w.heap.size w wr/\w.heap.size+2<=wr.heap.size) (fun i _=>W.pn - (intOf i).toNat)
 case atStart=>exact⟨0,Nat.zero_le _,rfl,HM.out,mA.out,by rw[World.size_alloc,kA];omega⟩
 case round=>
  clear HM lA mA HB kA;obtain⟨k,hk,rfl,eA,hb,hz⟩:=hrel;have cA:=zC eA;clear eA;by_cases pA:k<W.pn
  ·have fB:(k:Int)<(W.pn:Int):=(by omega);obtain⟨b,off,rfl,rA⟩:=aB.out k pA;have bA:=rA.zbd hb;obtain⟨-,ad,cd,jA,-,-⟩:=id bA.dead;have cB:=zC jA;rw[jA]at bA;clear jA rA;have gA:=zD wr (.cells #[.int .i64 (W.zbg k).id,.string (W.zbg k).name,.string (W.zbg k).set,.int .i64 (W.zbg k).zbi,.int .i64 (W.zbg k).time,.int .i64 (W.zbg k).rs,.int .i64 (W.zbg k).rb,.slice ad (W.zbg k).dn cd] 50);have vA:=zC (zFL.new wr (.int .i64 (W.zbg k).id) (.string (W.zbg k).name) (.string (W.zbg k).set) (.int .i64 (W.zbg k).zbi) (.int .i64 (W.zbg k).time) (.int .i64 (W.zbg k).rs) (.int .i64 (W.zbg k).rb) (.slice ad (W.zbg k).dn cd) 50);have nA:=zA hb gA;have q0:=bA.c0;have q1:=bA.c1;have q2:=bA.c2;have q3:=bA.c3;have q4:=bA.c4;have q5:=bA.c5;have q6:=bA.c6;have q7:=bA.c7;have iA:=zC (zKj (eB.out k pA));obtain⟨⟨⟨y0,-⟩,⟨y1,-⟩,⟨y2,-⟩,⟨y3,-⟩⟩,⟨y4,-⟩,⟨y5,-⟩,⟨y6,-⟩,⟨y7,-⟩⟩:=vA.out;have dA:=zC (cA.out.zbd gA);have jB:=gA.size;clear bA gA;go_wp2_with (first
    | (at_mapUpdate;refine wpList_mapUpdate_own _ rfl _ _ _ 78 rfl 2 50 zYe zPV zCz (w.heap.size+1) k _ rfl dA.out (by unfold maxLen;omega) _ _ _ rfl rfl iA.out _ [] (zCu _) ?_;intro w1 fA aA)
    | go_in)
   go_roundw
   case rel=>
    refine⟨k+1,by omega,by go_num,?_,nA.grown aA nA.size (fun j hj=>by cases hj;omega),by have:=aA.size;omega⟩;unfold zD3 putD zCX;rw[cB.out];exact fA
   case measure=>simp[intOf];omega
  ·obtain rfl:k=W.pn:=(by omega);go_wp2;go_ret;exact⟨vd,rfl,cA.out,bB.out,hb⟩
def zEa(n:Nat)(f:Nat->yY):Prop:=∀i,i<n->∀k,k<i->¬((f k).set=(f i).set/\(f k).name=(f i).name)
theorem zEa.iff{n:Nat}{f:Nat->yY}{key:Nat->Lit}(hk:∀i,i<n->keyOf Tryz.prog 127 (.agg #[.string (f i).set,.string (f i).name])=some (key i)):zIR n key↔zEa n f:=by
 constructor
 ·intro h i hi k aA e;refine h i hi k aA ?_;have h1:=hk i hi;have h2:=hk k (by omega);rw[e.1,e.2,h1]at h2;exact(Option.some.inj h2).symm
 ·intro h i hi k aA e;have h1:=hk i hi;have h2:=hk k (by omega);rw[e]at h2;have:=zaQ.inj h2 h1;simp only[Value.agg.injEq,Array.mk.injEq,List.cons.injEq,Value.string.injEq,and_true]at this;exact h i hi k aA this
theorem zMC(v:Value)(n lo hi:Nat)(f:Nat->yY)(w:World)(h:zDQ w lo hi v n f)(hn:n<=20) :
  Calls Tryz.prog 63 #[v] w fun e w'=>zJ (zEa n f) e/\Below w.heap.size w w':=by
 have Hp:=zC h;obtain⟨m1,a,c,rfl,mc,-⟩:=id h;unfold maxLen at m1;have iA:∀i,∃l,WideAt.IsKeyLit l/\(i<n->keyOf Tryz.prog 127 (.agg #[.string (f i).set,.string (f i).name])=some l):=fun i=>by
  by_cases mA:i<n
  ·obtain⟨b,off,vd,_,hs⟩:=h.cells mA;obtain⟨l,hl⟩:=zYc hs.zbk.2 hs.zbk.1;exact⟨l,zaQ.key hl,fun _=>hl⟩
  ·exact⟨.string [],trivial,fun h=>absurd h mA⟩
 obtain⟨key,nA,oA⟩:∃key:Nat->Lit,zFC key/\∀i,i<n->keyOf Tryz.prog 127 (.agg #[.string (f i).set,.string (f i).name])=some (key i):=⟨fun i=>(iA i).choose,fun i=>(iA i).choose_spec.1,fun i=>(iA i).choose_spec.2⟩;have sA:=zC nA;have kA:=zC oA;clear h iA nA oA;have HM:=zC (World.ownsMap_made w Tryz.prog 127 zCz);have aB:=@run_makeMap Tryz.prog;go_enter Tryz.func63,Tryz.ntmps63;go_wp2
 go_loopw [9] (fun i wr=>∃k:Nat,k<=n/\i = .int .i64 k/\wr.ownsMap Tryz.prog 127 zCz w.heap.size k (putD key (fun i=>.int .i64 (f i).id) k)/\Below w.heap.size w wr/\w.heap.size+1<=wr.heap.size) (fun i _=>n - (intOf i).toNat)
 case atStart=>exact⟨0,Nat.zero_le _,rfl,HM.out,zD _ _,by rw[World.size_alloc];omega⟩
 case round=>
  clear HM;obtain⟨k,hk,rfl,eA,hb,hz⟩:=hrel;have cA:=zC eA;clear eA;by_cases pA:k<n
  ·have vA:(k:Int)<(n:Int):=(by omega);obtain⟨b,off,vd,rfl,bA⟩:=(Hp.out.zbd hb).cells pA;obtain⟨-,ad,cd,rfl,-,-⟩:=id bA.dead;have gA:=zD wr (.cells #[.int .i64 (f k).id,.string (f k).name,.string (f k).set,.int .i64 (f k).zbi,.int .i64 (f k).time,.int .i64 (f k).rs,.int .i64 (f k).rb,.slice ad (f k).dn cd] 50);have rA:=zC (zFL.new wr (.int .i64 (f k).id) (.string (f k).name) (.string (f k).set) (.int .i64 (f k).zbi) (.int .i64 (f k).time) (.int .i64 (f k).rs) (.int .i64 (f k).rb) (.slice ad (f k).dn cd) 50);have lA:=zA hb gA;have q0:=bA.c0;have q1:=bA.c1;have q2:=bA.c2;have q3:=bA.c3;have q4:=bA.c4;have q5:=bA.c5;have q6:=bA.c6;have q7:=bA.c7;have jA:=zC (kA.out k pA);obtain⟨⟨⟨y0,-⟩,⟨y1,-⟩,⟨y2,-⟩,⟨y3,-⟩⟩,⟨y4,-⟩,⟨y5,-⟩,⟨y6,-⟩,⟨y7,-⟩⟩:=rA.out;have dA:=zC (cA.out.kept (zCS gA none) (by simp));have bB:=gA.size;clear bA gA;go_wp2_with (first
    | (at_mapUpdate;refine wpList_mapUpdate_own _ rfl _ _ _ 126 rfl 127 2 zaQ zVt zCz w.heap.size k _ rfl dA.out (by unfold maxLen;omega) _ _ _ rfl rfl jA.out _ [] (zCu _) ?_;intro w1 fA aA)
    | go_in)
   go_roundw
   case rel=>exact⟨k+1,by omega,by go_num,fA,lA.grown aA lA.size (fun j hj=>by cases hj;omega),by have:=aA.size;omega⟩
   case measure=>simp[intOf];omega
  ·obtain rfl:k=n:=(by omega);have tA:=zC (zJh sA.out (fun i=>.int .i64 (f i).id) k);have HN:=zC (zEa.iff (f:=f) kA.out);go_wp2_with (first
    | (at_len;refine wpList_len_own _ rfl _ 126 rfl 127 2 zVt zCz w.heap.size k _ rfl cA.out ?_)
    | go_in)
   go_ret;refine⟨⟨_,rfl,?_⟩,hb⟩;have h1:=tA.out.2;have h2:=HN.out;simp only[beq_iff_eq,Int.natCast_inj];exact h1.trans h2
def zG1(f:Nat->yY):Nat->yY
 | 0=>zAL
 | k+1=>f k
def zLA(W:zB)(i:Nat):Prop:=zA4 W (W.zbg i).set/\zDM (W.zbg i).name/\(W.zbg i).zbi<(W.zbg i).id/\Mid (zG1 W.zbg i).id (W.zbg i).id W.next/\Mid (zG1 W.zbg i).time (W.zbg i).time W.time
def zVo(W:zB):Prop:=W.pn<=20/\(∀i,i<W.pn->zLA W i)/\zEa W.pn W.zbg
theorem zMs(w:World):(zeroValue 46).run Tryz.prog w = .ok (.agg #[.string ⟨#[]⟩,.int .i64 0,.int .i64 0,.int .i64 0,.int .i64 0,.slice none 0 0]) w:=by kernel_rfl
theorem zVL{W:zB}{vd:Nat->Value}(hd:∀i,i<W.sn->∃a n c,vd i = .slice a n c)(x:ByteArray):∃(s0:ByteArray) (i1 i2 i3 i4:Int) (a:Option Addr) (n c:Nat),(putD (fun i=>zEm (W.zbh i).name) (fun i=>zI6 (vd i) (W.zbh i)) W.sn).atKey (zEm x) (.held (.agg #[.string ⟨#[]⟩,.int .i64 0,.int .i64 0,.int .i64 0,.int .i64 0,.slice none 0 0])) = .held (.agg #[.string s0,.int .i64 i1,.int .i64 i2,.int .i64 i3,.int .i64 i4,.slice a n c]):=by
 have hk:zFC (fun i=>zEm (W.zbh i).name):=fun i=>zLq _
 have:∀k,k<=W.sn->∃(s0:ByteArray) (i1 i2 i3 i4:Int) (a:Option Addr) (n c:Nat),(putD (fun i=>zEm (W.zbh i).name) (fun i=>zI6 (vd i) (W.zbh i)) k).atKey (zEm x) (.held (.agg #[.string ⟨#[]⟩,.int .i64 0,.int .i64 0,.int .i64 0,.int .i64 0,.slice none 0 0])) = .held (.agg #[.string s0,.int .i64 i1,.int .i64 i2,.int .i64 i3,.int .i64 i4,.slice a n c]):=by
  intro k
  induction k with
  | zero=>exact fun _=>⟨⟨#[]⟩,0,0,0,0,none,0,0,zHY hk _ (fun i hi=>absurd hi (Nat.not_lt_zero _)) _⟩
  | succ k ih=>
   intro aA;by_cases e:zEm (W.zbh k).name=zEm x
   ·obtain⟨a,n,c,hv⟩:=hd k (by omega);refine⟨(W.zbh k).name,(W.zbh k).origin,(W.zbh k).zbi,(W.zbh k).rs,(W.zbh k).rb,a,n,c,?_⟩;rw[<-e];refine(atKey_put_same (zEX hk _ k).isMap (hk k) _ _).trans ?_;show DataW.held (zI6 (vd k) (W.zbh k))=_;rw[hv];rfl
   ·obtain⟨s0,i1,i2,i3,i4,a,n,c,h⟩:=ih (by omega);exact⟨s0,i1,i2,i3,i4,a,n,c,(atKey_put_other (Ne.symm e) _ _).trans h⟩
 exact this W.sn (Nat.le_refl _)
theorem zXm{W:zB}{vd:Nat->Value}(x:ByteArray):Maps.has (putD (fun i=>zEm (W.zbh i).name) (fun i=>zI6 (vd i) (W.zbh i)) W.sn) (zEm x)=true↔zA4 W x:=by
 rw[zFg (fun i=>zLq _)];constructor
 ·rintro⟨i,hi,e⟩;exact⟨i,hi,zLp e⟩
 ·rintro⟨i,hi,e⟩;exact⟨i,hi,by rw[e]⟩
abbrev put8(w:World)(b:Nat)(u0 u1 u2 u3 u4 u5 u6 u7:Value):World:=(((((((w.setCell ⟨b,0,none⟩ u0).setCell ⟨b,1,none⟩ u1).setCell ⟨b,2,none⟩ u2).setCell ⟨b,3,none⟩ u3).setCell ⟨b,4,none⟩ u4).setCell ⟨b,5,none⟩ u5).setCell ⟨b,6,none⟩ u6).setCell ⟨b,7,none⟩ u7
theorem zFL.put{w:World}{b:Nat}{v0 v1 v2 v3 v4 v5 v6 v7:Value}(h:zFL w b v0 v1 v2 v3 v4 v5 v6 v7)(u0 u1 u2 u3 u4 u5 u6 u7:Value):zFL (put8 w b u0 u1 u2 u3 u4 u5 u6 u7) b u0 u1 u2 u3 u4 u5 u6 u7:=by
 obtain⟨⟨h0,h1,h2,h3⟩,h4,h5,h6,h7⟩:=h;refine⟨⟨?_,?_,?_,?_⟩,?_,?_,?_,?_⟩
 ·exact(((((((h0.set _).other _ (Or.inr (by omega))).other _ (Or.inr (by omega))).other _ (Or.inr (by omega))).other _ (Or.inr (by omega))).other _ (Or.inr (by omega))).other _ (Or.inr (by omega))).other _ (Or.inr (by omega))
 ·exact(((((((h1.other _ (Or.inr (by omega))).set _).other _ (Or.inr (by omega))).other _ (Or.inr (by omega))).other _ (Or.inr (by omega))).other _ (Or.inr (by omega))).other _ (Or.inr (by omega))).other _ (Or.inr (by omega))
 ·exact(((((((h2.other _ (Or.inr (by omega))).other _ (Or.inr (by omega))).set _).other _ (Or.inr (by omega))).other _ (Or.inr (by omega))).other _ (Or.inr (by omega))).other _ (Or.inr (by omega))).other _ (Or.inr (by omega))
 ·exact(((((((h3.other _ (Or.inr (by omega))).other _ (Or.inr (by omega))).other _ (Or.inr (by omega))).set _).other _ (Or.inr (by omega))).other _ (Or.inr (by omega))).other _ (Or.inr (by omega))).other _ (Or.inr (by omega))
 ·exact(((((((h4.other _ (Or.inr (by omega))).other _ (Or.inr (by omega))).other _ (Or.inr (by omega))).other _ (Or.inr (by omega))).set _).other _ (Or.inr (by omega))).other _ (Or.inr (by omega))).other _ (Or.inr (by omega))
 ·exact(((((((h5.other _ (Or.inr (by omega))).other _ (Or.inr (by omega))).other _ (Or.inr (by omega))).other _ (Or.inr (by omega))).other _ (Or.inr (by omega))).set _).other _ (Or.inr (by omega))).other _ (Or.inr (by omega))
 ·exact(((((((h6.other _ (Or.inr (by omega))).other _ (Or.inr (by omega))).other _ (Or.inr (by omega))).other _ (Or.inr (by omega))).other _ (Or.inr (by omega))).other _ (Or.inr (by omega))).set _).other _ (Or.inr (by omega))
 ·exact(((((((h7.other _ (Or.inr (by omega))).other _ (Or.inr (by omega))).other _ (Or.inr (by omega))).other _ (Or.inr (by omega))).other _ (Or.inr (by omega))).other _ (Or.inr (by omega))).other _ (Or.inr (by omega))).set _
theorem yh.put8(w:World)(b:Nat)(u0 u1 u2 u3 u4 u5 u6 u7:Value):yh (fun k=>k=b) w (put8 w b u0 u1 u2 u3 u4 u5 u6 u7):=
 (((((((yh.put w b 0 u0).trans (yh.put _ b 1 u1)).trans (yh.put _ b 2 u2)).trans (yh.put _ b 3 u3)).trans (yh.put _ b 4 u4)).trans (yh.put _ b 5 u5)).trans (yh.put _ b 6 u6)).trans (yh.put _ b 7 u7)
theorem zDP.put8{w:World}{W:zB}{M n b:Nat}{vd:Nat->Value}(h:zDP w W M n vd)(hb:M≠b)(u0 u1 u2 u3 u4 u5 u6 u7:Value):zDP (Go.Proofs.YtginldeebkfbgaaGreat.put8 w b u0 u1 u2 u3 u4 u5 u6 u7) W M n vd:=
 (((((((World.ownsMap.setCell h hb u0).setCell hb u1).setCell hb u2).setCell hb u3).setCell hb u4).setCell hb u5).setCell hb u6).setCell hb u7
theorem zRt{B:Nat}{w w':World}(h:Below B w w'){b:Nat}(hb:B<=b)(u0 u1 u2 u3 u4 u5 u6 u7:Value):Below B w (put8 w' b u0 u1 u2 u3 u4 u5 u6 u7):=
 (((((((h.setCell hb u0).setCell hb u1).setCell hb u2).setCell hb u3).setCell hb u4).setCell hb u5).setCell hb u6).setCell hb u7
theorem zMe(v0 v1 v2 v3:Value)(lo hi:Nat)(W:zB)(w:World)(h:ye w lo hi v0 v1 v2 v3 W)(hs:W.sn<=8) :
  Calls Tryz.prog 28 #[zAY v0 v1 v2 v3 W] w fun e w'=>zJ (zVo W) e/\Below w.heap.size w w':=by
 have Hp:=zC h;obtain⟨m1,a,c,rfl,mc,-⟩:=id h.zbg;unfold maxLen at m1;clear h;have ha:=zD w (.cells #[v0,v1,.int .i64 W.time,.int .i64 W.next,v2,.slice a W.pn c] 30);have HB:=zC (zAb.new w v0 v1 (.int .i64 W.time) (.int .i64 W.next) v2 (.slice a W.pn c) 30);obtain⟨x0,x2,x4,x6,x8,iA⟩:=HB.out.c;by_cases hn:W.pn<=20;rotate_left
 ·have dC:(20:Int)<(W.pn:Int):=(by omega);go_enter Tryz.func28,Tryz.ntmps28;go_wp2;go_ret;exact⟨zJ.no fun h=>hn h.1,ha⟩
 have dC:¬(20:Int)<(W.pn:Int):=by omega
 go_enter Tryz.func28,Tryz.ntmps28;go_wp2_with fail;clear x0 x2 x4 x6 x8 iA;generalize w.alloc (.cells #[v0,v1,.int .i64 W.time,.int .i64 W.next,v2,.slice a W.pn c] 30)=W0 at ha HB ⊢;refine(zEq v0 v1 v2 _ lo hi W W0 (Hp.out.zbd ha) hs).mono ?_;rintro e w1 ⟨vd,rfl,gA,sB,iB⟩;have pB:∀i,i<W.sn->∃a n c,vd i = .slice a n c:=fun i bC=>by
  obtain⟨_,aa,cc,hv,_⟩:=sB i bC;exact⟨aa,_,cc,hv⟩
 have nA:=zC (zVL pB);have mA:=zC (zXm (W:=W) (vd:=vd));have rA:=zD w1 (.cells #[.int .i64 0,.string ⟨#[]⟩,.string ⟨#[]⟩,.int .i64 0,.int .i64 0,.int .i64 0,.int .i64 0,.slice none 0 0] 50);have cB:=zC ((HB.out.zbd iB).zbd rA);have sA:=zC (zFL.new w1 (.int .i64 0) (.string ⟨#[]⟩) (.string ⟨#[]⟩) (.int .i64 0) (.int .i64 0) (.int .i64 0) (.int .i64 0) (.slice none 0 0) 50);have tA:=zC (gA.zbd rA);have lB:=zC (zA (zA ha iB) rA);have nB:W0.heap.size+1<w1.heap.size:=gA.lt;have mB:=zC (show w.heap.size<W0.heap.size+1 by have:=HB.out.1.lt;omega);clear gA sB pB iB rA ha HB;obtain⟨x0,x2,x4,x6,x8,iA⟩:=cB.out.c;go_wp2;clear x0 x2 x4 x6 x8 iA;obtain⟨L,hL⟩:∃L,L=w1.heap.size:=⟨_,rfl⟩;rw[<-hL]at sA nB ⊢;obtain⟨M,hM⟩:∃M,M=W0.heap.size+1:=⟨_,rfl⟩;rw[<-hM]at tA nB mB ⊢;have fC:w.heap.size<L:=by have:=mB.out;omega
 go_loopw [18] (fun i wr=>∃(k:Nat) (al:Option Addr) (nl cl:Nat),k<=W.pn/\i = .int .i64 k/\(∀j,j<k->zLA W j)/\zFL wr L (.int .i64 (zG1 W.zbg k).id) (.string (zG1 W.zbg k).name) (.string (zG1 W.zbg k).set) (.int .i64 (zG1 W.zbg k).zbi) (.int .i64 (zG1 W.zbg k).time) (.int .i64 (zG1 W.zbg k).rs) (.int .i64 (zG1 W.zbg k).rb) (.slice al nl cl)/\zAb wr w.heap.size v0 v1 (.int .i64 W.time) (.int .i64 W.next) v2 (.slice a W.pn c)/\zDP wr W M W.sn vd/\Below w.heap.size w wr) (fun i _=>W.pn - (intOf i).toNat)
 case atStart=>exact⟨0,none,0,0,Nat.zero_le _,rfl,fun j hj=>absurd hj (Nat.not_lt_zero _),sA.out,cB.out,tA.out,lB.out⟩
 case round=>
  clear sA cB tA lB hL hM;obtain⟨k,al,nl,cl,hk,rfl,oA,hV,hX,hM,hb⟩:=hrel;have lA:=zC oA;have HV:=zC hV;have HX:=zC hX;have HM:=zC hM;clear oA hV hX hM;obtain⟨x0,x2,x4,x6,x8,iA⟩:=HX.out.c;by_cases fA:k<W.pn
  ·have cC:(k:Int)<(W.pn:Int):=(by omega);obtain⟨b,off,iC,rfl,cA⟩:=(Hp.out.zbg.zbd hb).cells fA;obtain⟨-,ad,cd,rfl,-,-⟩:=id cA.dead;obtain⟨s0,i1,i2,i3,i4,sa,sn,sc,oB⟩:=nA.out (W.zbg k).set;have fB:=zC oB;have dA:=zC (zO4 cA.zbk.2);have eC:=cA.zbk.1;clear oB;have vB:wr.heap.size≠L:=(by have:=HV.out.1.1.lt;omega);have jA:=zD wr (.cells #[.int .i64 (W.zbg k).id,.string (W.zbg k).name,.string (W.zbg k).set,.int .i64 (W.zbg k).zbi,.int .i64 (W.zbg k).time,.int .i64 (W.zbg k).rs,.int .i64 (W.zbg k).rb,.slice ad (W.zbg k).dn cd] 50);have kA:=zD (wr.alloc (.cells #[.int .i64 (W.zbg k).id,.string (W.zbg k).name,.string (W.zbg k).set,.int .i64 (W.zbg k).zbi,.int .i64 (W.zbg k).time,.int .i64 (W.zbg k).rs,.int .i64 (W.zbg k).rb,.slice ad (W.zbg k).dn cd] 50)) (.cells #[.string s0,.int .i64 i1,.int .i64 i2,.int .i64 i3,.int .i64 i4,.slice sa sn sc] 46);have aB:=zC (zFL.new wr (.int .i64 (W.zbg k).id) (.string (W.zbg k).name) (.string (W.zbg k).set) (.int .i64 (W.zbg k).zbi) (.int .i64 (W.zbg k).time) (.int .i64 (W.zbg k).rs) (.int .i64 (W.zbg k).rb) (.slice ad (W.zbg k).dn cd) 50);have vA:=zC (HM.out.zbd jA);have pA:=zC (aB.out.zbd kA);have bB:=zC ((HV.out.zbd jA).zbd kA);have eB:=zC ((HX.out.zbd jA).zbd kA);have kB:=zC ((HM.out.zbd jA).zbd kA);have eA:=zA (zA hb jA) kA;have jB:((wr.alloc (.cells #[.int .i64 (W.zbg k).id,.string (W.zbg k).name,.string (W.zbg k).set,.int .i64 (W.zbg k).zbi,.int .i64 (W.zbg k).time,.int .i64 (W.zbg k).rs,.int .i64 (W.zbg k).rb,.slice ad (W.zbg k).dn cd] 50)).alloc (.cells #[.string s0,.int .i64 i1,.int .i64 i2,.int .i64 i3,.int .i64 i4,.slice sa sn sc] 46)).heap.size=wr.heap.size+2:=(by rw[World.size_alloc,World.size_alloc]);have q0:=cA.c0;have q1:=cA.c1;have q2:=cA.c2;have q3:=cA.c3;have q4:=cA.c4;have q5:=cA.c5;have q6:=cA.c6;have q7:=cA.c7;obtain⟨⟨⟨y0,-⟩,⟨y1,-⟩,⟨y2,-⟩,⟨y3,-⟩⟩,⟨y4,-⟩,⟨y5,-⟩,⟨y6,-⟩,⟨y7,-⟩⟩:=aB.out;obtain⟨⟨⟨z0,-⟩,⟨z1,-⟩,⟨z2,-⟩,⟨z3,-⟩⟩,⟨z4,-⟩,⟨z5,-⟩,⟨z6,-⟩,⟨z7,-⟩⟩:=pA.out;clear cA;by_cases bA:zA4 W (W.zbg k).set;rotate_left
   ·have Hc:=zC (show Maps.has (putD (fun i=>zEm (W.zbh i).name) (fun i=>zI6 (vd i) (W.zbh i)) W.sn) (zEm (W.zbg k).set)=false by rw[Bool.eq_false_iff];exact fun h=>bA ((mA.out _).1 h));have Hn:=zC (show ¬zLA W k from fun h=>bA h.1);clear bA;go_wp2_with (first
     | (at_lookup;refine zCp _ rfl _ _ 54 rfl 9 46 zYf zUC (zMs _) M W.sn _ rfl vA.out _ _ rfl dA.out _ fB.out false Hc.out ?_)
     | go_in)
    go_ret;exact⟨zJ.no fun h=>Hn.out (h.2.1 k fA),eA⟩
   have gB:=zC bA;have Hc:=zC ((mA.out _).2 bA);clear bA;go_wp2_with (first
    | (at_lookup;refine zCp _ rfl _ _ 54 rfl 9 46 zYf zUC (zMs _) M W.sn _ rfl vA.out _ _ rfl dA.out _ fB.out true Hc.out ?_)
    | fail)
   clear x0 x2 x4 x6 x8 iA y0 y1 y2 y3 y4 y5 y6 y7 z0 z1 z2 z3 z4 z5 z6 z7 q0 q1 q2 q3 q4 q5 q6 q7 aB vA HV HX HM hb jA kA dA fB Hc;generalize (wr.alloc (.cells #[.int .i64 (W.zbg k).id,.string (W.zbg k).name,.string (W.zbg k).set,.int .i64 (W.zbg k).zbi,.int .i64 (W.zbg k).time,.int .i64 (W.zbg k).rs,.int .i64 (W.zbg k).rb,.slice ad (W.zbg k).dn cd] 50)).alloc (.cells #[.string s0,.int .i64 i1,.int .i64 i2,.int .i64 i3,.int .i64 i4,.slice sa sn sc] 46)=W2 at pA bB eB kB eA jB ⊢;generalize wr.heap.size=V8 at pA vB ⊢;obtain⟨x0,x2,x4,x6,x8,iA⟩:=eB.out.c;obtain⟨⟨⟨z0,-⟩,⟨z1,-⟩,⟨z2,-⟩,⟨z3,-⟩⟩,⟨z4,-⟩,⟨z5,-⟩,⟨z6,-⟩,⟨z7,-⟩⟩:=pA.out;obtain⟨⟨⟨l0,m0⟩,⟨l1,n1⟩,⟨l2,n2⟩,⟨l3,n3⟩⟩,⟨l4,n4⟩,⟨l5,n5⟩,⟨l6,n6⟩,⟨l7,n7⟩⟩:=bB.out;refine(zIm (W.zbg k).name _ eC).mono ?_;rintro e wn ⟨⟨tn,rfl,aA⟩,rfl⟩;by_cases hA:zDM (W.zbg k).name;rotate_left
   ·have Hn:=zC (show ¬zLA W k from fun h=>hA h.2.1);obtain rfl:tn=false:=zAR aA hA;clear aA hA;go_wp2;go_ret;exact⟨zJ.no fun h=>Hn.out (h.2.1 k fA),eA⟩
   have HA:=zC hA;obtain rfl:tn=true:=aA.2 hA;clear aA hA;by_cases hg:(W.zbg k).id<=(W.zbg k).zbi
   ·have Hn:=zC (show ¬zLA W k from fun h=>by have:=h.2.2.1;omega);go_wp2;go_ret;exact⟨zJ.no fun h=>Hn.out (h.2.1 k fA),eA⟩
   have Hg:=zC (show(W.zbg k).zbi<(W.zbg k).id by omega);go_wp2_with fail;clear hg;refine(zJy _ _ _ _).mono ?_;rintro e wn ⟨⟨tn,rfl,aA⟩,rfl⟩;by_cases hB:Mid (zG1 W.zbg k).id (W.zbg k).id W.next;rotate_left
   ·have Hn:=zC (show ¬zLA W k from fun h=>hB h.2.2.2.1);obtain rfl:tn=false:=zAR aA hB;clear aA hB;go_wp2;go_ret;exact⟨zJ.no fun h=>Hn.out (h.2.1 k fA),eA⟩
   have HB:=zC hB;obtain rfl:tn=true:=aA.2 hB;clear aA hB;go_wp2_with fail;refine(zJy _ _ _ _).mono ?_;rintro e wn ⟨⟨tn,rfl,aA⟩,rfl⟩;by_cases hB:Mid (zG1 W.zbg k).time (W.zbg k).time W.time;rotate_left
   ·have Hn:=zC (show ¬zLA W k from fun h=>hB h.2.2.2.2);obtain rfl:tn=false:=zAR aA hB;clear aA hB;go_wp2;go_ret;exact⟨zJ.no fun h=>Hn.out (h.2.1 k fA),eA⟩
   have tB:=zC hB;obtain rfl:tn=true:=aA.2 hB;clear aA hB;go_wp2;go_roundw
   case rel=>exact⟨k+1,_,_,_,by omega,by go_num,qi fA lA.out ⟨gB.out,HA.out,Hg.out,HB.out,tB.out⟩,bB.out.put _ _ _ _ _ _ _ _,eB.out.turned (yh.put8 _ L _ _ _ _ _ _ _ _) (by omega),kB.out.put8 (by omega) _ _ _ _ _ _ _ _,zRt eA (by omega) _ _ _ _ _ _ _ _⟩
   case measure=>simp[intOf];omega
  ·obtain rfl:k=W.pn:=(by omega);go_wp2_with fail;clear x0 x2 x4 x6 x8 iA;refine(zMC _ W.pn lo hi W.zbg _ (Hp.out.zbg.zbd hb) hn).mono ?_;rintro e w6 ⟨⟨t6,rfl,rB⟩,aC⟩;have Ht:=zC rB;clear rB;go_wp2;go_ret;exact⟨⟨t6,rfl,Ht.out.trans ⟨fun hA=>⟨hn,lA.out,hA⟩,fun hA=>hA.2.2⟩⟩,zA hb aC⟩
def zEK(W:zB):Prop:=∀i,i<W.pn->∀j,j<i->(W.zbg j).id≠(W.zbg i).id
def zDK(w:World)(lo hi:Nat)(W:zB)(A:Nat):Prop:=∃M vd,yT w A 0 (.map (some M))/\zD3 w W M W.pn vd/\zHO w lo hi W.pn W.zbg vd
abbrev zJM(A:Nat):Value:=.func (.func 66) #[] #[.pointer (some ⟨A,0,none⟩)]
theorem zDK.zbd{w w':World}{lo hi:Nat}{W:zB}{A:Nat}(h:zDK w lo hi W A)(t:Below w.heap.size w w'):zDK w' lo hi W A:=by
 obtain⟨M,vd,h1,h2,h3⟩:=h;exact⟨M,vd,h1.zbd t,h2.zbd t,fun i aA=>(h3 i aA).zbd t⟩
theorem zJs(w:World):(zeroValue 50).run Tryz.prog w = .ok (.agg #[.int .i64 0,.string ⟨#[]⟩,.string ⟨#[]⟩,.int .i64 0,.int .i64 0,.int .i64 0,.int .i64 0,.slice none 0 0]) w:=by kernel_rfl
theorem zEr{W:zB}{w:World}{lo hi:Nat}{vd:Nat->Value}(hD:zEK W)(hd:zHO w lo hi W.pn W.zbg vd)(x:Int):∃a c,(putD (fun i=>zH9 (W.zbg i).id) (fun i=>zCX (vd i) (W.zbg i)) W.pn).atKey (zH9 x) (.held (.agg #[.int .i64 0,.string ⟨#[]⟩,.string ⟨#[]⟩,.int .i64 0,.int .i64 0,.int .i64 0,.int .i64 0,.slice none 0 0])) = .held (zCX (.slice a (zE W x).dn c) (zE W x))/\qk w lo hi (.slice a (zE W x).dn c) (zE W x).dn (zE W x).ds (zE W x).db:=by
 have hk:zFC (fun i=>zH9 (W.zbg i).id):=fun i=>zQa _
 by_cases hx:∃k,zAl W x k
 ·obtain⟨k,aA⟩:=hx;rw[zAc aA];have hp:=hd k aA.1;obtain⟨_,a,c,hv,_⟩:=id hp;refine⟨a,c,?_,by rw[<-hv];exact hp⟩;have:=zKs hk (fun i=>zCX (vd i) (W.zbg i)) (.held (.agg #[.int .i64 0,.string ⟨#[]⟩,.string ⟨#[]⟩,.int .i64 0,.int .i64 0,.int .i64 0,.int .i64 0,.slice none 0 0])) W.pn k aA.1 (fun j h1 h2 e=>hD j h2 k h1 (zLo e).symm);rw[aA.2.1]at this;rw[this,hv]
 ·have e:zE W x=zAL:=(by unfold zE;rw[dif_neg hx]);rw[e];refine⟨none,0,?_,⟨Nat.zero_le _,none,0,rfl,Nat.le_refl _,fun h=>absurd h (by simp[zAL])⟩⟩;refine zHY hk _ (fun i bA e2=>?_) _;exact hx (zJm (Nat.le_refl _) ⟨i,bA,zLo e2⟩)
theorem zCq(lo hi:Nat)(W:zB)(A:Nat)(x:Int)(w:World)(h:zDK w lo hi W A)(hD:zEK W)(hx:(Lit.int .i64 x).wf=true)(hn:W.pn<=20) :
  Calls Tryz.prog 66 #[.int .i64 x,.pointer (some ⟨A,0,none⟩)] w fun e w'=>∃a c,e = .returned (zCX (.slice a (zE W x).dn c) (zE W x))/\qk w lo hi (.slice a (zE W x).dn c) (zE W x).dn (zE W x).ds (zE W x).db/\Below w.heap.size w w':=by
 obtain⟨M,vd,hc,hm,hd⟩:=h;obtain⟨a,c,eA,hp⟩:=zEr hD hd x;have dA:=zC eA;have fA:=zC hp;have aA:=zC (zKj hx);clear eA hp hd hx;unfold zCX at dA ⊢;generalize zE W x=S at *;have bA:=zD w (.cells #[.int .i64 0,.string ⟨#[]⟩,.string ⟨#[]⟩,.int .i64 0,.int .i64 0,.int .i64 0,.int .i64 0,.slice none 0 0] 50);have HM:=zC (hm.zbd bA);obtain⟨x0,-⟩:=hc.zbd bA;have cA:=zD w (.cells #[.int .i64 S.id,.string S.name,.string S.set,.int .i64 S.zbi,.int .i64 S.time,.int .i64 S.rs,.int .i64 S.rb,.slice a S.dn c] 50);obtain⟨⟨⟨y0,-⟩,⟨y1,-⟩,⟨y2,-⟩,⟨y3,-⟩⟩,⟨y4,-⟩,⟨y5,-⟩,⟨y6,-⟩,⟨y7,-⟩⟩:=zFL.new w (.int .i64 S.id) (.string S.name) (.string S.set) (.int .i64 S.zbi) (.int .i64 S.time) (.int .i64 S.rs) (.int .i64 S.rb) (.slice a S.dn c) 50;clear hm hc bA;go_enter Tryz.func66,Tryz.ntmps66;go_wp2_with (first
  | (at_lookup;refine zJF _ rfl _ _ 78 rfl 2 50 zYe zPV (zJs _) M W.pn _ rfl HM.out _ _ rfl aA.out _ dA.out ?_)
  | go_in)
 refine bodyPost_ret (v:=.agg #[.int .i64 S.id,.string S.name,.string S.set,.int .i64 S.zbi,.int .i64 S.time,.int .i64 S.rs,.int .i64 S.rb,.slice a S.dn c]) (by simp[results,Tryz.results66,go_sem,y0,y1,y2,y3,y4,y5,y6,y7]) rfl ⟨a,c,rfl,fA.out,cA⟩
theorem zJu(v0 v1 v2 v3:Value)(lo hi:Nat)(W:zB)(w:World)(h:ye w lo hi v0 v1 v2 v3 W)(hn:W.pn<=20)(eA:zS3 W.pn W.zbg) :
  Calls Tryz.prog 30 #[zAY v0 v1 v2 v3 W] w fun e w'=>∃A,e = .returned (zJM A)/\zDK w' lo hi W A/\Below w.heap.size w w':=by
 have Hp:=zC h;clear h;have gA:∀(fn:Fn) (first cap:Array Value) (w:World),(Instr.makeFunc fn first cap).run Tryz.prog w = .ok (.func fn first cap) w:=fun _ _ _ _=>rfl
 have ha:=zD w (.cells #[v0,v1,.int .i64 W.time,.int .i64 W.next,v2,v3] 30);obtain⟨x0,x2,x4,x6,x8,fA⟩:=(zAb.new w v0 v1 (.int .i64 W.time) (.int .i64 W.next) v2 v3 30).c;go_enter Tryz.func30,Tryz.ntmps30;go_wp2_with fail;clear x0 x2 x4 x6 x8 fA;generalize w.alloc (.cells #[v0,v1,.int .i64 W.time,.int .i64 W.next,v2,v3] 30)=W0 at ha ⊢;refine(zD1 v0 v1 v2 v3 lo hi W W0 (Hp.out.zbd ha) hn eA).mono ?_;rintro e w1 ⟨vd,rfl,hm,hd,bA⟩;have aA:=zD w1 (.cells #[.map (some (W0.heap.size+1))] 78);have hc:yT (w1.alloc (.cells #[.map (some (W0.heap.size+1))] 78)) w1.heap.size 0 (.map (some (W0.heap.size+1))):=zL (heap_alloc_new _ _) rfl;have HA:=zC (show zDK (w1.alloc (.cells #[.map (some (W0.heap.size+1))] 78)) lo hi W w1.heap.size from⟨_,vd,hc,hm.zbd aA,fun i dA=>((hd i dA).zbd bA).zbd aA⟩);have cA:=zA (zA ha bA) aA;clear hm hd bA aA hc;go_wp2;go_ret;exact⟨_,rfl,HA.out,cA⟩
def zTj(vd:Value)(m:zHh):List Value:=[.int .i64 m.zbi,.int .i64 m.time,.int .i64 m.rs,.int .i64 m.rb,vd]
def mrow(W:zB)(vd:Nat->Value):Nat->List Value
 | 0=>[]
 | k+1=>mrow W vd k ++ zTj (vd k) (zI W k)
theorem zIy(W:zB)(vd:Nat->Value):∀n,(mrow W vd n).length=n*5
 | 0=>rfl
 | n+1=>by simp[mrow,zIy W vd n,zTj];omega
theorem zFb{W:zB}{vd:Nat->Value}:∀{n i j:Nat},i<n->j<5->(mrow W vd n)[i*5+j]?=(zTj (vd i) (zI W i))[j]?
 | 0,i,j,hi,_=>absurd hi (Nat.not_lt_zero _)
 | n+1,i,j,hi,hj=>by
  unfold mrow;by_cases e:i=n
  ·subst e;rw[List.getElem?_append_right (by rw[zIy];omega),zIy,show i*5+j - i*5=j by omega]
  ·rw[List.getElem?_append_left (by rw[zIy];omega),zFb (by omega) hj]
def zKy(w:World)(lo hi:Nat)(W:zB)(vd:Nat->Value):Prop:=∀i,i<zj W->qk w lo hi (vd i) (zI W i).dn (zI W i).ds (zI W i).db
def zH1(w:World)(base:Nat)(v:Value)(W:zB)(vd:Nat->Value)(n:Nat):Prop:=w.ownsRow base 95 5 v n (mrow W vd n)
theorem zH1.zbd{w w1:World}{base:Nat}{v:Value}{W:zB}{vd:Nat->Value}{n:Nat}(h:zH1 w base v W vd n)(hb:Below w.heap.size w w1):zH1 w1 base v W vd n:=
 h.kept (zCS hb none) (by cases v.ownBlock<;>simp)
theorem zH1.lt{w:World}{base:Nat}{v:Value}{W:zB}{vd:Nat->Value}{n:Nat}(h:zH1 w base v W vd n){q:Nat}(hq:v.ownBlock=some q):base<=q/\q<w.heap.size:=by
 rcases h.2 with⟨rfl,_⟩ | ⟨g,cap,aA,rfl,hb,hg,_⟩
 ·simp[Value.ownBlock]at hq
 ·simp only[Value.ownBlock,Option.some.injEq]at hq;subst hq;exact⟨hb,(Array.getElem?_eq_some_iff.1 hg).1⟩
theorem zH1.next{w2:World}{base g cap:Nat}{W:zB}{vd:Nat->Value}{n:Nat}(h:w2.ownsRow base 95 5 (.slice (some ⟨g,0,none⟩) (n+1) cap) (n+1) (mrow W vd n ++ zTj (vd n) (zI W n))):zH1 w2 base (.slice (some ⟨g,0,none⟩) (n+1) cap) W vd (n+1):=h
structure zHz (w:World) (lo hi:Nat) (v:Value) (W:zB) (vd:Nat->Value):Prop where
 form:∃a c,v = .slice a (zj W) c/\zj W<=c
 cells:∀i,i<zj W->∃g c,v = .slice (some ⟨g,0,none⟩) (zj W) c/\w.cell? ⟨g,i*5,none⟩=some (.int .i64 (zI W i).zbi)/\w.cell? ⟨g,i*5+1,none⟩=some (.int .i64 (zI W i).time)/\w.cell? ⟨g,i*5+2,none⟩=some (.int .i64 (zI W i).rs)/\w.cell? ⟨g,i*5+3,none⟩=some (.int .i64 (zI W i).rb)/\w.cell? ⟨g,i*5+4,none⟩=some (vd i)
 dead:zKy w lo hi W vd
theorem zHz.zbd{w w1:World}{lo hi:Nat}{v:Value}{W:zB}{vd:Nat->Value}(h:zHz w lo hi v W vd)(t:Below w.heap.size w w1):zHz w1 lo hi v W vd where
 form:=h.form
 cells:=fun i aA=>by
  obtain⟨g,c,e,h0,h1,h2,h3,h4⟩:=h.cells i aA;exact⟨g,c,e,(t.cell (zO h0)).trans h0,(t.cell (zO h1)).trans h1,(t.cell (zO h2)).trans h2,(t.cell (zO h3)).trans h3,(t.cell (zO h4)).trans h4⟩
 dead:=fun i aA=>(h.dead i aA).zbd t
theorem zH1.at{w:World}{base lo hi:Nat}{v:Value}{W:zB}{vd:Nat->Value}(h:zH1 w base v W vd (zj W))(hd:zKy w lo hi W vd):zHz w lo hi v W vd where
 form:=qo h
 cells:=fun i bA=>by
  obtain⟨g,cap,e,cA,hb,dA,aA⟩:=zFf h (by omega);refine⟨g,cap,e,?_,?_,?_,?_,?_⟩
  ·exact(aA (i*5) _ (by have:=zFb (W:=W) (vd:=vd) bA (show 0<5 by omega);rw[Nat.add_zero]at this;rw[this];rfl)).1
  ·exact(aA (i*5+1) _ (by rw[zFb bA (by omega)];rfl)).1
  ·exact(aA (i*5+2) _ (by rw[zFb bA (by omega)];rfl)).1
  ·exact(aA (i*5+3) _ (by rw[zFb bA (by omega)];rfl)).1
  ·exact(aA (i*5+4) _ (by rw[zFb bA (by omega)];rfl)).1
 dead:=hd
theorem zYZ:(Tryz.prog.info? 95).map (fun i=>(i.zero,i.size,i.bytes))=some (some (.agg #[.int .i64 0,.int .i64 0,.int .i64 0,.int .i64 0,.slice none 0 0]),5,56):=by kernel_rfl
theorem zFG(v0 v1 v2 v3:Value)(lo hi:Nat)(W:zB)(w:World)(h:ye w lo hi v0 v1 v2 v3 W)(hs:W.sn<=8)(hp:W.pn<=20) :
  Calls Tryz.prog 67 #[zAY v0 v1 v2 v3 W] w fun e w'=>∃v vd,e = .returned v/\zHz w' lo hi v W vd/\Below w.heap.size w w':=by
 have Hp:=zC h;obtain⟨m1,a,c,rfl,mc,-⟩:=id h.zbg;obtain⟨m2,a',c',rfl,fC,-⟩:=id h.zbh;unfold maxLen at m1 m2;obtain⟨vs,oB,iB⟩:=h.zbg.vals;obtain⟨vt,pB,jB⟩:=h.zbh.vals;have cC:∃vd:Nat->Value,(∀i,i<W.pn->vd i=vs i)/\(∀i,i<W.sn->vd (W.pn+i)=vt i)/\zKy w lo hi W vd:=by
  refine⟨fun i=>if i<W.pn then vs i else vt (i - W.pn),fun i lA=>if_pos lA,fun i lA=>?_,fun i lA=>?_⟩
  ·show(if W.pn+i<W.pn then vs (W.pn+i)else vt (W.pn+i - W.pn))=vt i;rw[if_neg (by omega),show W.pn+i - W.pn=i by omega]
  ·show qk w lo hi (if i<W.pn then vs i else vt (i - W.pn)) _ _ _;by_cases pA:i<W.pn
   ·rw[if_pos pA,qq pA];exact oB i pA
   ·have e:=zAi W (i - W.pn);rw[show W.pn+(i - W.pn)=i by omega]at e;rw[if_neg pA,e];unfold zj at lA;exact pB _ (by omega)
 obtain⟨vd,kB,lB,mB⟩:=cC;have sB:=zC iB;have tB:=zC jB;have vB:=zC kB;have aC:=zC lB;have bC:=zC mB;clear h oB iB pB jB kB lB mB;obtain⟨i0,nB,fB⟩:=Option.map_eq_some_iff.1 zYZ;simp only[Prod.mk.injEq]at fB;have HI:=zC (And.intro nB fB);clear nB fB;have ha:=zD w (.cells #[v0,v1,.int .i64 W.time,.int .i64 W.next,.slice a' W.sn c',.slice a W.pn c] 30);have HB:=zC (zAb.new w v0 v1 (.int .i64 W.time) (.int .i64 W.next) (.slice a' W.sn c') (.slice a W.pn c) 30);obtain⟨x0,x2,x4,x6,x8,gB⟩:=HB.out.c;go_enter Tryz.func67,Tryz.ntmps67;go_wp2;clear x0 x2 x4 x6 x8 gB
 go_loopw [3,11] (fun v i wr=>∃k:Nat,k<=W.pn/\i = .int .i64 k/\zH1 wr (w.heap.size+1) v W vd k/\zAb wr w.heap.size v0 v1 (.int .i64 W.time) (.int .i64 W.next) (.slice a' W.sn c') (.slice a W.pn c)/\Below w.heap.size w wr) (fun _ i _=>W.pn - (intOf i).toNat)
 case atStart=>exact⟨0,Nat.zero_le _,rfl,World.ownsRow_nil _ _ _ _,HB.out,ha⟩
 case round=>
  clear HB ha;obtain⟨k,hk,rfl,gA,hX,hb⟩:=hrel;have cA:=zC gA;have HX:=zC hX;clear gA hX;by_cases jA:k<W.pn
  ·have bB:(k:Int)<(W.pn:Int):=(by omega);obtain⟨b,off,rfl,oA⟩:=sB.out k jA;have bA:=oA.zbd hb;rw[<-vB.out k jA]at bA;obtain⟨-,ad,cd,kA,-,-⟩:=id bA.dead;have tA:=zC kA;rw[kA]at bA;clear kA oA;have iA:=zD wr (.cells #[.int .i64 (W.zbg k).id,.string (W.zbg k).name,.string (W.zbg k).set,.int .i64 (W.zbg k).zbi,.int .i64 (W.zbg k).time,.int .i64 (W.zbg k).rs,.int .i64 (W.zbg k).rb,.slice ad (W.zbg k).dn cd] 50);have rA:=zC (zFL.new wr (.int .i64 (W.zbg k).id) (.string (W.zbg k).name) (.string (W.zbg k).set) (.int .i64 (W.zbg k).zbi) (.int .i64 (W.zbg k).time) (.int .i64 (W.zbg k).rs) (.int .i64 (W.zbg k).rb) (.slice ad (W.zbg k).dn cd) 50);have eA:=zD (wr.alloc (.cells #[.int .i64 (W.zbg k).id,.string (W.zbg k).name,.string (W.zbg k).set,.int .i64 (W.zbg k).zbi,.int .i64 (W.zbg k).time,.int .i64 (W.zbg k).rs,.int .i64 (W.zbg k).rb,.slice ad (W.zbg k).dn cd] 50)) (.cells #[.int .i64 (W.zbg k).zbi,.int .i64 (W.zbg k).time,.int .i64 (W.zbg k).rs,.int .i64 (W.zbg k).rb,.slice ad (W.zbg k).dn cd] 95);have HN:=zC (World.news_of_block (heap_alloc_last (wr.alloc (.cells #[.int .i64 (W.zbg k).id,.string (W.zbg k).name,.string (W.zbg k).set,.int .i64 (W.zbg k).zbi,.int .i64 (W.zbg k).time,.int .i64 (W.zbg k).rs,.int .i64 (W.zbg k).rb,.slice ad (W.zbg k).dn cd] 50)) (.cells #[.int .i64 (W.zbg k).zbi,.int .i64 (W.zbg k).time,.int .i64 (W.zbg k).rs,.int .i64 (W.zbg k).rb,.slice ad (W.zbg k).dn cd] 95)));have dA:=zC ((cA.out.zbd iA).zbd eA);have sA:=zC ((HX.out.zbd iA).zbd eA);have mA:=zA (zA hb iA) eA;have dC:=HX.out.1.lt;have eB:(wr.alloc (.cells #[.int .i64 (W.zbg k).id,.string (W.zbg k).name,.string (W.zbg k).set,.int .i64 (W.zbg k).zbi,.int .i64 (W.zbg k).time,.int .i64 (W.zbg k).rs,.int .i64 (W.zbg k).rb,.slice ad (W.zbg k).dn cd] 50)).heap.size=wr.heap.size+1:=World.size_alloc _ _;have eC:=eA.size;rw[eB]at HN;have q0:=bA.c0;have q1:=bA.c1;have q2:=bA.c2;have q3:=bA.c3;have q4:=bA.c4;have q5:=bA.c5;have q6:=bA.c6;have q7:=bA.c7;obtain⟨⟨⟨y0,-⟩,⟨y1,-⟩,⟨y2,-⟩,⟨y3,-⟩⟩,⟨y4,-⟩,⟨y5,-⟩,⟨y6,-⟩,⟨y7,-⟩⟩:=rA.out;clear bA iA eA cA HX;go_wp2_with (first
    | (at_builtin;refine wpList_append_lies _ rfl _ _ 92 rfl (w.heap.size+1) 95 i0 (.agg #[.int .i64 0,.int .i64 0,.int .i64 0,.int .i64 0,.slice none 0 0]) 5 56 (by kernel_rfl) HI.out.1 HI.out.2.1 HI.out.2.2.1 HI.out.2.2.2 rfl (by decide) _ _ _ rfl dA.out ⟨wr.heap.size+1,0,none⟩ 1 1 [.int .i64 (W.zbg k).zbi,.int .i64 (W.zbg k).time,.int .i64 (W.zbg k).rs,.int .i64 (W.zbg k).rb,.slice ad (W.zbg k).dn cd] rfl rfl HN.out (by simp[Value.oneCell']) (by decide) (by unfold maxLen;omega) (by omega) (by omega) _ rfl ?_;intro g' vA w8 fA aA aB cB)
    | go_in)
   go_roundw
   case rel=>
    have nA:∀q,Value.ownBlock _=some q->w.heap.size+1<=q:=fun q hq=>(dA.out.lt hq).1
    refine⟨k+1,by omega,by go_num,?_,sA.out.grown aA (fun q hq=>by have:=nA q hq;omega),mA.grown aA mA.size (fun q hq=>by have:=nA q hq;omega)⟩;refine zH1.next ?_;rw[qq jA,tA.out];exact fA
   case measure=>simp[intOf];omega
  ·obtain rfl:k=W.pn:=(by omega);obtain⟨x0,x2,x4,x6,x8,gB⟩:=HX.out.c;go_wp2;clear x0 x2 x4 x6 x8 gB
   go_loopw [3,31] (fun v i wr=>∃k:Nat,k<=W.sn/\i = .int .i64 k/\zH1 wr (w.heap.size+1) v W vd (W.pn+k)/\zAb wr w.heap.size v0 v1 (.int .i64 W.time) (.int .i64 W.next) (.slice a' W.sn c') (.slice a W.pn c)/\Below w.heap.size w wr) (fun _ i _=>W.sn - (intOf i).toNat)
   case atStart=>exact⟨0,Nat.zero_le _,rfl,cA.out,HX.out,hb⟩
   case round=>
    clear HX hb cA hk jA;obtain⟨k,hk,rfl,gA,hX,hb⟩:=hrel;have cA:=zC gA;have HX:=zC hX;clear gA hX;by_cases jA:k<W.sn
    ·have bB:(k:Int)<(W.sn:Int):=(by omega);obtain⟨b,off,rfl,oA⟩:=tB.out k jA;have bA:=oA.zbd hb;rw[<-aC.out k jA]at bA;obtain⟨-,ad,cd,kA,-,-⟩:=id bA.dead;have tA:=zC kA;rw[kA]at bA;clear kA oA;have iA:=zD wr (.cells #[.string (W.zbh k).name,.int .i64 (W.zbh k).origin,.int .i64 (W.zbh k).zbi,.int .i64 (W.zbh k).rs,.int .i64 (W.zbh k).rb,.slice ad (W.zbh k).dn cd] 46);have rA:=zC (zAb.new wr (.string (W.zbh k).name) (.int .i64 (W.zbh k).origin) (.int .i64 (W.zbh k).zbi) (.int .i64 (W.zbh k).rs) (.int .i64 (W.zbh k).rb) (.slice ad (W.zbh k).dn cd) 46);have rB:=zC (HX.out.zbd iA);have eA:=zD (wr.alloc (.cells #[.string (W.zbh k).name,.int .i64 (W.zbh k).origin,.int .i64 (W.zbh k).zbi,.int .i64 (W.zbh k).rs,.int .i64 (W.zbh k).rb,.slice ad (W.zbh k).dn cd] 46)) (.cells #[.int .i64 (W.zbh k).zbi,.int .i64 W.time,.int .i64 (W.zbh k).rs,.int .i64 (W.zbh k).rb,.slice ad (W.zbh k).dn cd] 95);have HN:=zC (World.news_of_block (heap_alloc_last (wr.alloc (.cells #[.string (W.zbh k).name,.int .i64 (W.zbh k).origin,.int .i64 (W.zbh k).zbi,.int .i64 (W.zbh k).rs,.int .i64 (W.zbh k).rb,.slice ad (W.zbh k).dn cd] 46)) (.cells #[.int .i64 (W.zbh k).zbi,.int .i64 W.time,.int .i64 (W.zbh k).rs,.int .i64 (W.zbh k).rb,.slice ad (W.zbh k).dn cd] 95)));have dA:=zC ((cA.out.zbd iA).zbd eA);have sA:=zC ((HX.out.zbd iA).zbd eA);have mA:=zA (zA hb iA) eA;have dC:=HX.out.1.lt;have eB:(wr.alloc (.cells #[.string (W.zbh k).name,.int .i64 (W.zbh k).origin,.int .i64 (W.zbh k).zbi,.int .i64 (W.zbh k).rs,.int .i64 (W.zbh k).rb,.slice ad (W.zbh k).dn cd] 46)).heap.size=wr.heap.size+1:=World.size_alloc _ _;have eC:=eA.size;rw[eB]at HN;have q0:=bA.c0;have q1:=bA.c1;have q2:=bA.c2;have q3:=bA.c3;have q4:=bA.c4;have q5:=bA.c5;obtain⟨y0,y1,y2,y3,y4,y5⟩:=rA.out.c;obtain⟨z0,z2,z4,z6,z8,iC⟩:=rB.out.c;clear bA iA eA cA HX;go_wp2_with (first
      | (at_builtin;refine wpList_append_lies _ rfl _ _ 92 rfl (w.heap.size+1) 95 i0 (.agg #[.int .i64 0,.int .i64 0,.int .i64 0,.int .i64 0,.slice none 0 0]) 5 56 (by kernel_rfl) HI.out.1 HI.out.2.1 HI.out.2.2.1 HI.out.2.2.2 rfl (by decide) _ _ _ rfl dA.out ⟨wr.heap.size+1,0,none⟩ 1 1 [.int .i64 (W.zbh k).zbi,.int .i64 W.time,.int .i64 (W.zbh k).rs,.int .i64 (W.zbh k).rb,.slice ad (W.zbh k).dn cd] rfl rfl HN.out (by simp[Value.oneCell']) (by decide) (by unfold maxLen;omega) (by omega) (by omega) _ rfl ?_;intro g' vA w8 fA aA aB cB)
      | go_in)
     go_roundw
     case rel=>
      have nA:∀q,Value.ownBlock _=some q->w.heap.size+1<=q:=fun q hq=>(dA.out.lt hq).1
      refine⟨k+1,by omega,by go_num,?_,sA.out.grown aA (fun q hq=>by have:=nA q hq;omega),mA.grown aA mA.size (fun q hq=>by have:=nA q hq;omega)⟩;show zH1 w8 (w.heap.size+1) _ W vd (W.pn+k+1);refine zH1.next ?_;rw[zAi,tA.out];exact fA
     case measure=>simp[intOf];omega
    ·obtain rfl:k=W.sn:=(by omega);go_wp2;go_ret;exact⟨_,vd,rfl,zH1.at cA.out (fun i lA=>(bC.out i lA).zbd hb),hb⟩
def zGf(w:World)(b:Nat)(v0 v1 v2 v3 v4:Value):Prop:=yT w b 0 v0/\yT w b 1 v1/\yT w b 2 v2/\yT w b 3 v3/\yT w b 4 v4
theorem zGf.zbd{w w':World}{b:Nat}{v0 v1 v2 v3 v4:Value}(h:zGf w b v0 v1 v2 v3 v4)(t:Below w.heap.size w w'):zGf w' b v0 v1 v2 v3 v4:=⟨h.1.zbd t,h.2.1.zbd t,h.2.2.1.zbd t,h.2.2.2.1.zbd t,h.2.2.2.2.zbd t⟩
theorem zGf.new(w:World)(v0 v1 v2 v3 v4:Value)(t:TypeId):zGf (w.alloc (.cells #[v0,v1,v2,v3,v4] t)) w.heap.size v0 v1 v2 v3 v4:=by
 have hb:(w.alloc (.cells #[v0,v1,v2,v3,v4] t)).heap[w.heap.size]?=some (.cells #[v0,v1,v2,v3,v4] t):=heap_alloc_new _ _;exact⟨zL hb rfl,zL hb rfl,zL hb rfl,zL hb rfl,zL hb rfl⟩
def zDN(W:zB):Prop:=∀i,i<zj W->(Lit.int .i64 (zI W i).zbi).wf=true
def zK3(W:zB)(i:Nat):Prop:=(zE W (zI W i).zbi).id=(zI W i).zbi
theorem zF5(v:Value)(s:yY)(w:World):(Instr.field 50 (zCX v s) 0).run Tryz.prog w = .ok (.int .i64 s.id) w/\(Instr.field 50 (zCX v s) 2).run Tryz.prog w = .ok (.string s.set) w/\(Instr.field 50 (zCX v s) 3).run Tryz.prog w = .ok (.int .i64 s.zbi) w/\(Instr.field 50 (zCX v s) 4).run Tryz.prog w = .ok (.int .i64 s.time) w:=by
 refine⟨?_,?_,?_,?_⟩<;>kernel_rfl
theorem zMS(v0 v1 v2 v3:Value)(lo hi:Nat)(W:zB)(A:Nat)(w:World)(h:ye w lo hi v0 v1 v2 v3 W)(hs:W.sn<=8)(hp:W.pn<=20)(hA:zDK w lo hi W A)(hD:zEK W)(nA:zDN W) :
  Calls Tryz.prog 31 #[zAY v0 v1 v2 v3 W,zJM A] w fun e w'=>zJ (∀i,i<zj W->zK3 W i) e/\Below w.heap.size w w':=by
 have Hp:=zC h;have HA:=zC hA;have HD:=zC hD;have oA:=zC nA;clear h hA hD nA;have ha:=zD w (.cells #[v0,v1,.int .i64 W.time,.int .i64 W.next,v2,v3] 30);obtain⟨x0,x2,x4,x6,x8,vA⟩:=(zAb.new w v0 v1 (.int .i64 W.time) (.int .i64 W.next) v2 v3 30).c;go_enter Tryz.func31,Tryz.ntmps31;go_wp2_with fail;clear x0 x2 x4 x6 x8 vA;generalize w.alloc (.cells #[v0,v1,.int .i64 W.time,.int .i64 W.next,v2,v3] 30)=W0 at ha ⊢;refine(zFG v0 v1 v2 v3 lo hi W W0 (Hp.out.zbd ha) hs hp).mono ?_;rintro e w1 ⟨vm,vd,rfl,hm,jA⟩;have HM:=zC hm;have eA:=zA ha jA;obtain⟨am,cm,rfl,aB⟩:=id hm.form;have bB:zj W<=28:=by unfold zj;omega
 clear ha jA hm;go_wp2
 go_loopw [10] (fun i wr=>∃k:Nat,k<=zj W/\i = .int .i64 k/\(∀j,j<k->zK3 W j)/\Below w1.heap.size w1 wr) (fun i _=>zj W - (intOf i).toNat)
 case atStart=>exact⟨0,Nat.zero_le _,rfl,fun j hj=>absurd hj (Nat.not_lt_zero _),Below.refl _ _⟩
 case round=>
  obtain⟨k,hk,rfl,bA,hb⟩:=hrel;have aA:=zC bA;clear bA;by_cases cA:k<zj W;rotate_left
  ·obtain rfl:k=zj W:=(by omega);go_wp2;go_ret;exact⟨zJ.yes aA.out,zA eA hb⟩
  have sA:(k:Int)<(zj W:Int):=(by omega);obtain⟨g,cg,e,q0,q1,q2,q3,q4⟩:=(HM.out.zbd hb).cells k cA;obtain⟨-,ad,cd,mA,-,-⟩:=id ((HM.out.zbd hb).dead k cA);rw[mA]at q4;cases e;have gA:=zD wr (.cells #[.int .i64 (zI W k).zbi,.int .i64 (zI W k).time,.int .i64 (zI W k).rs,.int .i64 (zI W k).rb,.slice ad (zI W k).dn cd] 95);have HV:=zC (zGf.new wr (.int .i64 (zI W k).zbi) (.int .i64 (zI W k).time) (.int .i64 (zI W k).rs) (.int .i64 (zI W k).rb) (.slice ad (zI W k).dn cd) 95);have dA:=zC (HA.out.zbd (zA eA (zA hb gA)));have kA:=zA hb gA;have pA:=zC (oA.out k cA);have iA:=zC (show zK3 W k↔(zE W (zI W k).zbi).id=(zI W k).zbi from Iff.rfl);clear mA gA;generalize zI W k=m at *;go_wp2_with fail;clear q0 q1 q2 q3 q4;generalize wr.alloc (.cells #[.int .i64 m.zbi,.int .i64 m.time,.int .i64 m.rs,.int .i64 m.rb,.slice ad m.dn cd] 95)=W2 at HV dA kA ⊢;generalize wr.heap.size=V at HV ⊢;obtain⟨⟨y0,-⟩,-⟩:=HV.out;go_region_held3 (fun w'=>w'.cell? ⟨V,0,none⟩=some (.int .i64 m.zbi)) (go_keep)
   (first | (go_at_call 66;refine(zCq lo hi W A m.zbi _ ?_ HD.out pA.out hp).mono ?_;(exact dA.out.zbd (Below.refl _ _).drew);rintro e w6 ⟨aa,ca,rfl,tA,fA⟩;have rA:=fun w=>(zF5 (.slice aa (zE W m.zbi).dn ca) (zE W m.zbi) w).1;obtain⟨⟨z0,_⟩,_⟩:=HV.out.zbd (qW fA)))
  have lA:=zH3 kA fA;clear fA tA rA z0 y0 dA;by_cases he:(zE W m.zbi).id=m.zbi
  ·have hd:((zE W m.zbi).id != m.zbi)=false:=(by simp[he]);have He:=zC (iA.out.2 he);clear he;go_wp2;go_roundw
   case rel=>exact⟨k+1,by omega,by go_num,qi cA aA.out He.out,lA⟩
   case measure=>simp[intOf];omega
  ·have hd:((zE W m.zbi).id != m.zbi)=true:=(by simp[he]);have He:=zC (fun h=>he (iA.out.1 h));clear he;go_wp2;go_ret;exact⟨zJ.no fun h=>He.out (h k cA),zA eA lA⟩
theorem zSG(v:Value)(n lo hi:Nat)(f g:Nat->Int)(x y:Int)(w:World)(h1:qk w lo hi v n f g) :
  Calls Tryz.prog 137 #[v,.agg #[.int .i64 x,.int .i64 y]] w fun e w'=>∃r:Int,e = .returned (.int .i64 r)/\(0<=r↔PIn n f g x y)/\Below w.heap.size w w':=by
 have Hp:=zC h1;obtain⟨m1,a,c,rfl,mc,-⟩:=id h1;unfold maxLen at m1;clear h1;have ha:=zD w (.cells #[.int .i64 x,.int .i64 y] 44);have HB:=zC (yG.new w (.int .i64 x) (.int .i64 y) 44);go_enter Tryz.func137,Tryz.ntmps137;go_wp2
 go_loopw [8] (fun i wr=>∃k:Nat,k<=n/\i = .int .i64 k/\¬PIn k f g x y/\yG wr w.heap.size (.int .i64 x) (.int .i64 y)/\Below w.heap.size w wr) (fun i _=>n - (intOf i).toNat)
 case atStart=>exact⟨0,Nat.zero_le _,rfl,fun ⟨j,hj,_⟩=>absurd hj (Nat.not_lt_zero _),HB.out,ha⟩
 case round=>
  obtain⟨k,hk,rfl,dA,hX,hb⟩:=hrel;have bA:=zC dA;have HX:=zC hX;clear dA hX;obtain⟨⟨x0,x1⟩,⟨x2,x3⟩⟩:=HX.out;by_cases cA:k<n
  ·have eA:(k:Int)<(n:Int):=(by omega);obtain⟨b,off,rfl,q0,q1⟩:=(Hp.out.zbd hb).cellsD cA;by_cases he:f k=x/\g k=y
   ·have H:=zC (show PIn n f g x y from⟨k,cA,he.1,he.2⟩);rw[he.1]at q0;rw[he.2]at q1;clear he;go_wp2
    go_quiet (fail)
    go_wp2;go_ret;exact⟨k,rfl,⟨fun _=>H.out,fun _=>by omega⟩,zCe hb _⟩
   ·have H:=zC he;have e0:(x == f k)=false\/(x == f k)=true/\(y == g k)=false:=by
     by_cases h:f k=x
     ·right;refine⟨by simp[h],?_⟩;have:¬y=g k:=fun h'=>he ⟨h,h'.symm⟩
      simp[this]
     ·left;have:¬x=f k:=fun h'=>h h'.symm
      simp[this]
    clear he;rcases e0 with e0 | ⟨e0,e1⟩
    all_goals
     go_wp2
     go_quiet (fail)
     go_wp2;go_roundw
     case rel=>
      refine⟨k+1,by omega,by go_num,?_,HX.out.zbd (zCe (Below.refl _ _) _),zCe hb _⟩;rintro⟨j,hj,aA⟩;by_cases e:j=k
      ·subst e;exact H.out ⟨aA.1,aA.2⟩
      ·exact bA.out ⟨j,by omega,aA⟩
     case measure=>simp[intOf];omega
  ·obtain rfl:k=n:=(by omega);go_wp2;go_ret;exact⟨-1,rfl,⟨fun h=>absurd h (by decide),fun h=>absurd h bA.out⟩,hb⟩
theorem zHm(v:Value)(n lo hi:Nat)(f g:Nat->Int)(x y:Int)(w:World)(h1:qk w lo hi v n f g) :
  Calls Tryz.prog 104 #[v,.agg #[.int .i64 x,.int .i64 y]] w fun e w'=>zJ (PIn n f g x y) e/\Below w.heap.size w w':=by
 have Hp:=zC h1;clear h1;have ha:=zD w (.cells #[.int .i64 x,.int .i64 y] 44);obtain⟨⟨x0,-⟩,⟨x2,-⟩⟩:=yG.new w (.int .i64 x) (.int .i64 y) 44;go_enter Tryz.func104,Tryz.ntmps104;go_wp2_with fail;refine(zSG v n lo hi f g x y _ (Hp.out.zbd ha)).mono ?_;rintro e w1 ⟨r,rfl,hr,aA⟩;have Hr:=zC hr;have hB:=zA ha aA;clear hr aA x0 x2 ha;go_wp2;go_ret;refine⟨⟨_,rfl,?_⟩,hB⟩;have:=Hr.out;simp only[decide_eq_true_eq];exact this
theorem zQZ(v:Value)(n lo hi:Nat)(f g:Nat->Int)(x y:Int)(T:Nat)(w:World)(h1:qk w lo hi v n f g)(hT:w.cell? ⟨T,0,none⟩=some v) :
  Calls Tryz.prog 103 #[.agg #[.int .i64 x,.int .i64 y],.pointer (some ⟨T,0,none⟩)] w fun e w'=>zJ (PIn n f g x y) e/\Below w.heap.size w w':=by
 have Hp:=zC h1;obtain⟨m1,a,c,rfl,mc,-⟩:=id h1;clear h1;have ha:=zD w (.cells #[.int .i64 x,.int .i64 y] 44);obtain⟨⟨x0,-⟩,⟨x2,-⟩⟩:=yG.new w (.int .i64 x) (.int .i64 y) 44;have cA:=(ha.cell (p:=⟨T,0,none⟩) (zO hT)).trans hT;clear hT;go_enter Tryz.func103,Tryz.ntmps103;go_wp2_with fail;refine(zHm _ n lo hi f g x y _ (Hp.out.zbd ha)).mono ?_;rintro e w1 ⟨⟨t1,rfl,bA⟩,aA⟩;have Ht:=zC bA;have hB:=zA ha aA;clear bA aA x0 x2 ha cA;go_wp2;go_ret;exact⟨⟨_,rfl,Ht.out⟩,hB⟩
theorem zSE(v:Value)(n lo hi:Nat)(f g:Nat->Int)(x y:Int)(T:Nat)(w:World)(h1:qk w lo hi v n f g)(hT:w.cell? ⟨T,0,none⟩=some v) :
  Calls Tryz.prog 105 #[.agg #[.int .i64 x,.int .i64 y],.pointer (some ⟨T,0,none⟩)] w fun e w'=>zJ (PIn n f g x y) e/\Below w.heap.size w w':=by
 have Hp:=zC h1;obtain⟨m1,a,c,rfl,mc,-⟩:=id h1;clear h1;have ha:=zD w (.cells #[.int .i64 x,.int .i64 y] 44);obtain⟨⟨x0,-⟩,⟨x2,-⟩⟩:=yG.new w (.int .i64 x) (.int .i64 y) 44;have cA:=(ha.cell (p:=⟨T,0,none⟩) (zO hT)).trans hT;clear hT;go_enter Tryz.func105,Tryz.ntmps105;go_wp2_with fail;refine(zHm _ n lo hi f g x y _ (Hp.out.zbd ha)).mono ?_;rintro e w1 ⟨⟨t1,rfl,bA⟩,aA⟩;have Ht:=zC bA;have hB:=zA ha aA;clear bA aA x0 x2 ha cA;go_wp2;go_ret;exact⟨⟨_,rfl,Ht.out⟩,hB⟩
theorem zDr(v0 v1 v2 v3:Value)(lo hi:Nat)(W:zB)(xs xb:Int)(w:World)(h:ye w lo hi v0 v1 v2 v3 W)(hR:zf W.pool)(hT:zW W.pool xs xb) :
  Calls Tryz.prog 72 #[zAY v0 v1 v2 v3 W,.agg #[.int .i64 xs,.int .i64 xb]] w fun e w'=>∃v,e = .returned v/\zBS w' w.heap.size v (zH W.pool xs xb)/\Below w.heap.size w w':=by
 have Hp:=zC h;have HR:=zC hR;have HT:=zC (show Nil xs xb\/yF W.pool xs xb from hT.imp id (fun h=>h.1.1));obtain⟨m0,a0,c0,rfl,eA,-⟩:=id h.pool.1;clear h hR hT;have ha:=zD w (.cells #[.slice a0 W.pool.n c0,v1,.int .i64 W.time,.int .i64 W.next,v2,v3] 30);have hB:=zAb.new w (.slice a0 W.pool.n c0) v1 (.int .i64 W.time) (.int .i64 W.next) v2 v3 30;have hz:(w.alloc (.cells #[.slice a0 W.pool.n c0,v1,.int .i64 W.time,.int .i64 W.next,v2,v3] 30)).heap.size=w.heap.size+1:=World.size_alloc _ _;have bA:=zD (w.alloc (.cells #[.slice a0 W.pool.n c0,v1,.int .i64 W.time,.int .i64 W.next,v2,v3] 30)) (.cells #[.int .i64 xs,.int .i64 xb] 44);have hX:=yG.new (w.alloc (.cells #[.slice a0 W.pool.n c0,v1,.int .i64 W.time,.int .i64 W.next,v2,v3] 30)) (.int .i64 xs) (.int .i64 xb) 44;rw[hz]at hX;have aA:=zA ha bA;obtain⟨⟨x0,-⟩,⟨x2,-⟩,-⟩:=hB.zbd bA;obtain⟨⟨y0,-⟩,⟨y2,-⟩⟩:=hX;clear hB ha bA;go_enter Tryz.func72,Tryz.ntmps72;go_wp2_with fail;clear x0 x2 y0 y2;generalize (w.alloc (.cells #[.slice a0 W.pool.n c0,v1,.int .i64 W.time,.int .i64 W.next,v2,v3] 30)).alloc (.cells #[.int .i64 xs,.int .i64 xb] 44)=W0 at aA ⊢;refine(zOF W.pool HR.out _ lo hi xs xb W0 (Hp.out.pool.1.zbd aA) HT.out).mono ?_;rintro e w1 ⟨v,rfl,hr,cA⟩;have Hr:=zC hr;have hB:=zA aA cA;have dA:=aA.size;clear hr cA;go_wp2;go_ret;exact⟨v,rfl,zBS.mono Hr.out dA,hB⟩
end Go.Proofs.YtginldeebkfbgaaGreat
