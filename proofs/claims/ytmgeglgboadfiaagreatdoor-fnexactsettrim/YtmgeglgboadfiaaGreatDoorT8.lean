/- What impl.membersOf answers: the snapshots and the sets, with what both have. -/
import Derived.Test.YtmgeglgboadfiaaGreatDoorT7
set_option linter.unusedVariables false
set_option maxRecDepth 20000
set_option maxHeartbeats 4000000
namespace Go.Proofs.YtmgeglgboadfiaaGreatDoor
open Go.RowKit Go.Maps
def zNS(vd:Value)(m:zEp):List Value:=[.int .i64 m.zRT,.int .i64 m.time,.int .i64 m.rs,.int .i64 m.rb,vd]
def mrow(W:zH)(vd:Nat->Value):Nat->List Value
 | 0=>[]
 | k+1=>mrow W vd k ++ zNS (vd k) (zO W k)
theorem zF6(W:zH)(vd:Nat->Value):∀n,(mrow W vd n).length=n*5
 | 0=>rfl
 | n+1=>by simp[mrow,zF6 W vd n,zNS];omega
theorem zDF{W:zH}{vd:Nat->Value}:∀{n i j:Nat},i<n->j<5->(mrow W vd n)[i*5+j]?=(zNS (vd i) (zO W i))[j]?
 | 0,i,j,hi,_=>absurd hi (Nat.not_lt_zero _)
 | n+1,i,j,hi,hj=>by
  unfold mrow;by_cases e:i=n
  ·subst e;rw[List.getElem?_append_right (by rw[zF6];omega),zF6,show i*5+j - i*5=j by omega]
  ·rw[List.getElem?_append_left (by rw[zF6];omega),zDF (by omega) hj]
def zH7(w:World)(lo hi:Nat)(W:zH)(vd:Nat->Value):Prop:=∀i,i<zq W->zU w lo hi (vd i) (zO W i).dn (zO W i).ds (zO W i).db
def zFM(w:World)(base:Nat)(v:Value)(W:zH)(vd:Nat->Value)(n:Nat):Prop:=w.ownsRow base 224 5 v n (mrow W vd n)
theorem zFM.zRJ{w w1:World}{base:Nat}{v:Value}{W:zH}{vd:Nat->Value}{n:Nat}(h:zFM w base v W vd n)(hb:Below w.heap.size w w1):zFM w1 base v W vd n:=
 h.kept (yu hb none) (by cases v.ownBlock<;>simp)
theorem zFM.lt{w:World}{base:Nat}{v:Value}{W:zH}{vd:Nat->Value}{n:Nat}(h:zFM w base v W vd n){q:Nat}(hq:v.ownBlock=some q):base<=q/\q<w.heap.size:=by
 rcases h.2 with⟨rfl,_⟩ | ⟨g,bA,aA,rfl,hb,hg,_⟩
 ·simp[Value.ownBlock]at hq
 ·simp only[Value.ownBlock,Option.some.injEq]at hq;subst hq;exact⟨hb,(Array.getElem?_eq_some_iff.1 hg).1⟩
theorem zFM.next{w2:World}{base g aA:Nat}{W:zH}{vd:Nat->Value}{n:Nat}(h:w2.ownsRow base 224 5 (.slice (some ⟨g,0,none⟩) (n+1) aA) (n+1) (mrow W vd n ++ zNS (vd n) (zO W n))):zFM w2 base (.slice (some ⟨g,0,none⟩) (n+1) aA) W vd (n+1):=h
structure zFA (w:World) (lo hi:Nat) (v:Value) (W:zH) (vd:Nat->Value):Prop where
 form:∃a c,v = .slice a (zq W) c/\zq W<=c
 cells:∀i,i<zq W->∃g c,v = .slice (some ⟨g,0,none⟩) (zq W) c/\w.cell? ⟨g,i*5,none⟩=some (.int .i64 (zO W i).zRT)/\w.cell? ⟨g,i*5+1,none⟩=some (.int .i64 (zO W i).time)/\w.cell? ⟨g,i*5+2,none⟩=some (.int .i64 (zO W i).rs)/\w.cell? ⟨g,i*5+3,none⟩=some (.int .i64 (zO W i).rb)/\w.cell? ⟨g,i*5+4,none⟩=some (vd i)
 zRX:zH7 w lo hi W vd
theorem zFA.zRJ{w w1:World}{lo hi:Nat}{v:Value}{W:zH}{vd:Nat->Value}(h:zFA w lo hi v W vd)(t:Below w.heap.size w w1):zFA w1 lo hi v W vd where
 form:=h.form
 cells:=fun i hi'=>by
  obtain⟨g,c,e,h0,h1,h2,h3,h4⟩:=h.cells i hi';exact⟨g,c,e,(t.cell (zD h0)).trans h0,(t.cell (zD h1)).trans h1,(t.cell (zD h2)).trans h2,(t.cell (zD h3)).trans h3,(t.cell (zD h4)).trans h4⟩
 zRX:=fun i hi'=>(h.zRX i hi').zRJ t
theorem zFM.at{w:World}{base lo hi:Nat}{v:Value}{W:zH}{vd:Nat->Value}(h:zFM w base v W vd (zq W))(hd:zH7 w lo hi W vd):zFA w lo hi v W vd where
 form:=zW h
 cells:=fun i hi'=>by
  obtain⟨g,bA,e,cA,hb,dA,aA⟩:=qe h (by omega);refine⟨g,bA,e,?_,?_,?_,?_,?_⟩
  ·exact(aA (i*5) _ (by have:=zDF (W:=W) (vd:=vd) hi' (show 0<5 by omega);rw[Nat.add_zero]at this;rw[this];rfl)).1
  ·exact(aA (i*5+1) _ (by rw[zDF hi' (by omega)];rfl)).1
  ·exact(aA (i*5+2) _ (by rw[zDF hi' (by omega)];rfl)).1
  ·exact(aA (i*5+3) _ (by rw[zDF hi' (by omega)];rfl)).1
  ·exact(aA (i*5+4) _ (by rw[zDF hi' (by omega)];rfl)).1
 zRX:=hd
theorem zQB:(Tryz.prog.info? 224).map (fun i=>(i.zero,i.size,i.bytes))=some (some (.agg #[.int .i64 0,.int .i64 0,.int .i64 0,.int .i64 0,.slice none 0 0]),5,56):=by kernel_rfl
theorem zC9(v0 v1 v2 v3:Value)(lo hi:Nat)(W:zH)(w:World)(h:zl w lo hi v0 v1 v2 v3 W)(hs:W.sn<=8)(hp:W.pn<=20) :
  Calls Tryz.prog 181 #[zz v0 v1 v2 v3 W] w fun e w'=>∃v vd,e = .returned v/\zFA w' lo hi v W vd/\Below w.heap.size w w':=by
 have Hp:=zB h;obtain⟨m1,a,c,rfl,mc,-⟩:=id h.zRP;obtain⟨m2,a',c',rfl,eC,-⟩:=id h.zRS;unfold maxLen at m1 m2;obtain⟨vs,mB,gB⟩:=h.zRP.vals;obtain⟨vt,nB,iB⟩:=h.zRS.vals;have sB:∃vd:Nat->Value,(∀i,i<W.pn->vd i=vs i)/\(∀i,i<W.sn->vd (W.pn+i)=vt i)/\zH7 w lo hi W vd:=by
  refine⟨fun i=>if i<W.pn then vs i else vt (i - W.pn),fun i hi'=>if_pos hi',fun i hi'=>?_,fun i hi'=>?_⟩
  ·show(if W.pn+i<W.pn then vs (W.pn+i)else vt (W.pn+i - W.pn))=vt i;rw[if_neg (by omega),show W.pn+i - W.pn=i by omega]
  ·show zU w lo hi (if i<W.pn then vs i else vt (i - W.pn)) _ _ _;by_cases oA:i<W.pn
   ·rw[if_pos oA,qS oA];exact mB i oA
   ·have e:=yH W (i - W.pn);rw[show W.pn+(i - W.pn)=i by omega]at e;rw[if_neg oA,e];unfold zq at hi';exact nB _ (by omega)
 obtain⟨vd,kB,fB,jB⟩:=sB;have aC:=zB gB;have tB:=zB iB;have vB:=zB kB;have oB:=zB fB;have rB:=zB jB;clear h mB gB nB iB kB fB jB;obtain⟨i0,lB,cB⟩:=Option.map_eq_some_iff.1 zQB;simp only[Prod.mk.injEq]at cB;have HI:=zB (And.intro lB cB);clear lB cB;have ha:=zC w (.cells #[v0,v1,.int .i64 W.time,.int .i64 W.next,.slice a' W.sn c',.slice a W.pn c] 37);have HB:=zB (zi.zRL w v0 v1 (.int .i64 W.time) (.int .i64 W.next) (.slice a' W.sn c') (.slice a W.pn c) 37);obtain⟨⟨x0,-⟩,⟨x2,-⟩,⟨x4,-⟩,⟨x6,-⟩,⟨x8,-⟩,⟨aB,-⟩⟩:=HB.out;go_enter Tryz.func181,Tryz.ntmps181;go_wp2;clear x0 x2 x4 x6 x8 aB
 go_loopw [3,11] (fun v i wr=>∃k:Nat,k<=W.pn/\i = .int .i64 k/\zFM wr (w.heap.size+1) v W vd k/\zi wr w.heap.size v0 v1 (.int .i64 W.time) (.int .i64 W.next) (.slice a' W.sn c') (.slice a W.pn c)/\Below w.heap.size w wr) (fun _ i _=>W.pn - (intOf i).toNat)
 case atStart=>exact⟨0,Nat.zero_le _,rfl,World.ownsRow_nil _ _ _ _,HB.out,ha⟩
 case round=>
  clear HB ha;obtain⟨k,hk,rfl,fA,hX,hb⟩:=hrel;have dA:=zB fA;have HX:=zB hX;clear fA hX;by_cases kA:k<W.pn
  ·have bB:(k:Int)<(W.pn:Int):=(by omega);obtain⟨b,off,rfl,lA⟩:=aC.out k kA;have bA:=lA.zRJ hb;rw[<-vB.out k kA]at bA;obtain⟨-,ad,cd,jA,-,-⟩:=id bA.zRX;have dB:=zB jA;rw[jA]at bA;clear jA lA;have iA:=zC wr (.cells #[.int .i64 (W.zRP k).id,.string (W.zRP k).name,.string (W.zRP k).set,.int .i64 (W.zRP k).zRT,.int .i64 (W.zRP k).time,.int .i64 (W.zRP k).rs,.int .i64 (W.zRP k).rb,.slice ad (W.zRP k).dn cd] 99);have sA:=zB (zCH.zRL wr (.int .i64 (W.zRP k).id) (.string (W.zRP k).name) (.string (W.zRP k).set) (.int .i64 (W.zRP k).zRT) (.int .i64 (W.zRP k).time) (.int .i64 (W.zRP k).rs) (.int .i64 (W.zRP k).rb) (.slice ad (W.zRP k).dn cd) 99);have eA:=zC (wr.alloc (.cells #[.int .i64 (W.zRP k).id,.string (W.zRP k).name,.string (W.zRP k).set,.int .i64 (W.zRP k).zRT,.int .i64 (W.zRP k).time,.int .i64 (W.zRP k).rs,.int .i64 (W.zRP k).rb,.slice ad (W.zRP k).dn cd] 99)) (.cells #[.int .i64 (W.zRP k).zRT,.int .i64 (W.zRP k).time,.int .i64 (W.zRP k).rs,.int .i64 (W.zRP k).rb,.slice ad (W.zRP k).dn cd] 224);have HN:=zB (World.news_of_block (heap_alloc_last (wr.alloc (.cells #[.int .i64 (W.zRP k).id,.string (W.zRP k).name,.string (W.zRP k).set,.int .i64 (W.zRP k).zRT,.int .i64 (W.zRP k).time,.int .i64 (W.zRP k).rs,.int .i64 (W.zRP k).rb,.slice ad (W.zRP k).dn cd] 99)) (.cells #[.int .i64 (W.zRP k).zRT,.int .i64 (W.zRP k).time,.int .i64 (W.zRP k).rs,.int .i64 (W.zRP k).rb,.slice ad (W.zRP k).dn cd] 224)));have cA:=zB ((dA.out.zRJ iA).zRJ eA);have tA:=zB ((HX.out.zRJ iA).zRJ eA);have nA:=zA (zA hb iA) eA;have bC:=HX.out.1.lt;have rA:(wr.alloc (.cells #[.int .i64 (W.zRP k).id,.string (W.zRP k).name,.string (W.zRP k).set,.int .i64 (W.zRP k).zRT,.int .i64 (W.zRP k).time,.int .i64 (W.zRP k).rs,.int .i64 (W.zRP k).rb,.slice ad (W.zRP k).dn cd] 99)).heap.size=wr.heap.size+1:=World.size_alloc _ _;have cC:=eA.size;rw[rA]at HN;have q0:=bA.c0;have q1:=bA.c1;have q2:=bA.c2;have q3:=bA.c3;have q4:=bA.c4;have q5:=bA.c5;have q6:=bA.c6;have q7:=bA.c7;obtain⟨⟨⟨y0,-⟩,⟨y1,-⟩,⟨y2,-⟩,⟨y3,-⟩⟩,⟨y4,-⟩,⟨y5,-⟩,⟨y6,-⟩,⟨y7,-⟩⟩:=sA.out;clear bA iA eA dA HX;go_wp2_with (first
    | (at_builtin;refine wpList_append_lies _ rfl _ _ 220 rfl (w.heap.size+1) 224 i0 (.agg #[.int .i64 0,.int .i64 0,.int .i64 0,.int .i64 0,.slice none 0 0]) 5 56 (by kernel_rfl) HI.out.1 HI.out.2.1 HI.out.2.2.1 HI.out.2.2.2 rfl (by decide) _ _ _ rfl cA.out ⟨wr.heap.size+1,0,none⟩ 1 1 [.int .i64 (W.zRP k).zRT,.int .i64 (W.zRP k).time,.int .i64 (W.zRP k).rs,.int .i64 (W.zRP k).rb,.slice ad (W.zRP k).dn cd] rfl rfl HN.out (by simp[Value.oneCell']) (by decide) (by unfold maxLen;omega) (by omega) (by omega) _ rfl ?_;intro g' vA w8 gA aA pA eB)
    | go_in)
   go_roundw
   case rel=>
    have mA:∀q,Value.ownBlock _=some q->w.heap.size+1<=q:=fun q hq=>(cA.out.lt hq).1
    refine⟨k+1,by omega,by go_num,?_,tA.out.grown aA (fun q hq=>by have:=mA q hq;omega),nA.grown aA nA.size (fun q hq=>by have:=mA q hq;omega)⟩;refine zFM.next ?_;rw[qS kA,dB.out];exact gA
   case measure=>simp[intOf];omega
  ·obtain rfl:k=W.pn:=(by omega);obtain⟨⟨x0,-⟩,⟨x2,-⟩,⟨x4,-⟩,⟨x6,-⟩,⟨x8,-⟩,⟨aB,-⟩⟩:=HX.out;go_wp2;clear x0 x2 x4 x6 x8 aB
   go_loopw [3,31] (fun v i wr=>∃k:Nat,k<=W.sn/\i = .int .i64 k/\zFM wr (w.heap.size+1) v W vd (W.pn+k)/\zi wr w.heap.size v0 v1 (.int .i64 W.time) (.int .i64 W.next) (.slice a' W.sn c') (.slice a W.pn c)/\Below w.heap.size w wr) (fun _ i _=>W.sn - (intOf i).toNat)
   case atStart=>exact⟨0,Nat.zero_le _,rfl,dA.out,HX.out,hb⟩
   case round=>
    clear HX hb dA hk kA;obtain⟨k,hk,rfl,fA,hX,hb⟩:=hrel;have dA:=zB fA;have HX:=zB hX;clear fA hX;by_cases kA:k<W.sn
    ·have bB:(k:Int)<(W.sn:Int):=(by omega);obtain⟨b,off,rfl,lA⟩:=tB.out k kA;have bA:=lA.zRJ hb;rw[<-oB.out k kA]at bA;obtain⟨-,ad,cd,jA,-,-⟩:=id bA.zRX;have dB:=zB jA;rw[jA]at bA;clear jA lA;have iA:=zC wr (.cells #[.string (W.zRS k).name,.int .i64 (W.zRS k).origin,.int .i64 (W.zRS k).zRT,.int .i64 (W.zRS k).rs,.int .i64 (W.zRS k).rb,.slice ad (W.zRS k).dn cd] 67);have sA:=zB (zi.zRL wr (.string (W.zRS k).name) (.int .i64 (W.zRS k).origin) (.int .i64 (W.zRS k).zRT) (.int .i64 (W.zRS k).rs) (.int .i64 (W.zRS k).rb) (.slice ad (W.zRS k).dn cd) 67);have pB:=zB (HX.out.zRJ iA);have eA:=zC (wr.alloc (.cells #[.string (W.zRS k).name,.int .i64 (W.zRS k).origin,.int .i64 (W.zRS k).zRT,.int .i64 (W.zRS k).rs,.int .i64 (W.zRS k).rb,.slice ad (W.zRS k).dn cd] 67)) (.cells #[.int .i64 (W.zRS k).zRT,.int .i64 W.time,.int .i64 (W.zRS k).rs,.int .i64 (W.zRS k).rb,.slice ad (W.zRS k).dn cd] 224);have HN:=zB (World.news_of_block (heap_alloc_last (wr.alloc (.cells #[.string (W.zRS k).name,.int .i64 (W.zRS k).origin,.int .i64 (W.zRS k).zRT,.int .i64 (W.zRS k).rs,.int .i64 (W.zRS k).rb,.slice ad (W.zRS k).dn cd] 67)) (.cells #[.int .i64 (W.zRS k).zRT,.int .i64 W.time,.int .i64 (W.zRS k).rs,.int .i64 (W.zRS k).rb,.slice ad (W.zRS k).dn cd] 224)));have cA:=zB ((dA.out.zRJ iA).zRJ eA);have tA:=zB ((HX.out.zRJ iA).zRJ eA);have nA:=zA (zA hb iA) eA;have bC:=HX.out.1.lt;have rA:(wr.alloc (.cells #[.string (W.zRS k).name,.int .i64 (W.zRS k).origin,.int .i64 (W.zRS k).zRT,.int .i64 (W.zRS k).rs,.int .i64 (W.zRS k).rb,.slice ad (W.zRS k).dn cd] 67)).heap.size=wr.heap.size+1:=World.size_alloc _ _;have cC:=eA.size;rw[rA]at HN;have q0:=bA.c0;have q1:=bA.c1;have q2:=bA.c2;have q3:=bA.c3;have q4:=bA.c4;have q5:=bA.c5;obtain⟨⟨y0,-⟩,⟨y1,-⟩,⟨y2,-⟩,⟨y3,-⟩,⟨y4,-⟩,⟨y5,-⟩⟩:=sA.out;obtain⟨⟨z0,-⟩,⟨z2,-⟩,⟨z4,-⟩,⟨z6,-⟩,⟨z8,-⟩,⟨dC,-⟩⟩:=pB.out;clear bA iA eA dA HX;go_wp2_with (first
      | (at_builtin;refine wpList_append_lies _ rfl _ _ 220 rfl (w.heap.size+1) 224 i0 (.agg #[.int .i64 0,.int .i64 0,.int .i64 0,.int .i64 0,.slice none 0 0]) 5 56 (by kernel_rfl) HI.out.1 HI.out.2.1 HI.out.2.2.1 HI.out.2.2.2 rfl (by decide) _ _ _ rfl cA.out ⟨wr.heap.size+1,0,none⟩ 1 1 [.int .i64 (W.zRS k).zRT,.int .i64 W.time,.int .i64 (W.zRS k).rs,.int .i64 (W.zRS k).rb,.slice ad (W.zRS k).dn cd] rfl rfl HN.out (by simp[Value.oneCell']) (by decide) (by unfold maxLen;omega) (by omega) (by omega) _ rfl ?_;intro g' vA w8 gA aA pA eB)
      | go_in)
     go_roundw
     case rel=>
      have mA:∀q,Value.ownBlock _=some q->w.heap.size+1<=q:=fun q hq=>(cA.out.lt hq).1
      refine⟨k+1,by omega,by go_num,?_,tA.out.grown aA (fun q hq=>by have:=mA q hq;omega),nA.grown aA nA.size (fun q hq=>by have:=mA q hq;omega)⟩;show zFM w8 (w.heap.size+1) _ W vd (W.pn+k+1);refine zFM.next ?_;rw[yH,dB.out];exact gA
     case measure=>simp[intOf];omega
    ·obtain rfl:k=W.sn:=(by omega);go_wp2;go_ret;exact⟨_,vd,rfl,zFM.at dA.out (fun i hi'=>(rB.out i hi').zRJ hb),hb⟩
def zEV(w:World)(b:Nat)(v0 v1 v2 v3 v4:Value):Prop:=zX w b 0 v0/\zX w b 1 v1/\zX w b 2 v2/\zX w b 3 v3/\zX w b 4 v4
theorem zEV.zRJ{w w':World}{b:Nat}{v0 v1 v2 v3 v4:Value}(h:zEV w b v0 v1 v2 v3 v4)(t:Below w.heap.size w w'):zEV w' b v0 v1 v2 v3 v4:=⟨h.1.zRJ t,h.2.1.zRJ t,h.2.2.1.zRJ t,h.2.2.2.1.zRJ t,h.2.2.2.2.zRJ t⟩
theorem zEV.zRL(w:World)(v0 v1 v2 v3 v4:Value)(t:TypeId):zEV (w.alloc (.cells #[v0,v1,v2,v3,v4] t)) w.heap.size v0 v1 v2 v3 v4:=by
 have hb:(w.alloc (.cells #[v0,v1,v2,v3,v4] t)).heap[w.heap.size]?=some (.cells #[v0,v1,v2,v3,v4] t):=heap_alloc_new _ _;exact⟨zI hb rfl,zI hb rfl,zI hb rfl,zI hb rfl,zI hb rfl⟩
def zCK(W:zH):Prop:=∀i,i<zq W->(Lit.int .i64 (zO W i).zRT).wf=true
def zIW(W:zH)(i:Nat):Prop:=(zN W (zO W i).zRT).id=(zO W i).zRT
theorem zDZ(v:Value)(s:zm)(w:World):(Instr.field 99 (ye v s) 0).run Tryz.prog w = .ok (.int .i64 s.id) w/\(Instr.field 99 (ye v s) 2).run Tryz.prog w = .ok (.string s.set) w/\(Instr.field 99 (ye v s) 3).run Tryz.prog w = .ok (.int .i64 s.zRT) w/\(Instr.field 99 (ye v s) 4).run Tryz.prog w = .ok (.int .i64 s.time) w:=by
 refine⟨?_,?_,?_,?_⟩<;>kernel_rfl
theorem zIV(v0 v1 v2 v3:Value)(lo hi:Nat)(W:zH)(A:Nat)(w:World)(h:zl w lo hi v0 v1 v2 v3 W)(hs:W.sn<=8)(hp:W.pn<=20)(hA:zBb w lo hi W A)(hD:zCE W)(mA:zCK W) :
  Calls Tryz.prog 205 #[zz v0 v1 v2 v3 W,zGJ A] w fun e w'=>zG (∀i,i<zq W->zIW W i) e/\Below w.heap.size w w':=by
 have Hp:=zB h;have HA:=zB hA;have HD:=zB hD;have oA:=zB mA;clear h hA hD mA;have ha:=zC w (.cells #[v0,v1,.int .i64 W.time,.int .i64 W.next,v2,v3] 37);obtain⟨⟨x0,-⟩,⟨x2,-⟩,⟨x4,-⟩,⟨x6,-⟩,⟨x8,-⟩,⟨sA,-⟩⟩:=zi.zRL w v0 v1 (.int .i64 W.time) (.int .i64 W.next) v2 v3 37;go_enter Tryz.func205,Tryz.ntmps205;go_wp2_with fail;clear x0 x2 x4 x6 x8 sA;generalize w.alloc (.cells #[v0,v1,.int .i64 W.time,.int .i64 W.next,v2,v3] 37)=W0 at ha ⊢;refine(zC9 v0 v1 v2 v3 lo hi W W0 (Hp.out.zRJ ha) hs hp).mono ?_;rintro e w1 ⟨vm,vd,rfl,hm,jA⟩;have HM:=zB hm;have dA:=zA ha jA;obtain⟨am,cm,rfl,bB⟩:=id hm.form;have aB:zq W<=28:=by unfold zq;omega
 clear ha jA hm;go_wp2
 go_loopw [10] (fun i wr=>∃k:Nat,k<=zq W/\i = .int .i64 k/\(∀j,j<k->zIW W j)/\Below w1.heap.size w1 wr) (fun i _=>zq W - (intOf i).toNat)
 case atStart=>exact⟨0,Nat.zero_le _,rfl,fun j hj=>absurd hj (Nat.not_lt_zero _),Below.refl _ _⟩
 case round=>
  obtain⟨k,hk,rfl,cA,hb⟩:=hrel;have aA:=zB cA;clear cA;by_cases bA:k<zq W;rotate_left
  ·obtain rfl:k=zq W:=(by omega);go_wp2;go_ret;exact⟨zG.yes aA.out,zA dA hb⟩
  have tA:(k:Int)<(zq W:Int):=(by omega);obtain⟨g,cg,e,q0,q1,q2,q3,q4⟩:=(HM.out.zRJ hb).cells k bA;obtain⟨-,ad,cd,kA,-,-⟩:=id ((HM.out.zRJ hb).zRX k bA);rw[kA]at q4;cases e;have gA:=zC wr (.cells #[.int .i64 (zO W k).zRT,.int .i64 (zO W k).time,.int .i64 (zO W k).rs,.int .i64 (zO W k).rb,.slice ad (zO W k).dn cd] 224);have HV:=zB (zEV.zRL wr (.int .i64 (zO W k).zRT) (.int .i64 (zO W k).time) (.int .i64 (zO W k).rs) (.int .i64 (zO W k).rb) (.slice ad (zO W k).dn cd) 224);have eA:=zB (HA.out.zRJ (zA dA (zA hb gA)));have lA:=zA hb gA;have rA:=zB (oA.out k bA);have iA:=zB (show zIW W k↔(zN W (zO W k).zRT).id=(zO W k).zRT from Iff.rfl);clear kA gA;generalize zO W k=m at *;go_wp2_with fail;clear q0 q1 q2 q3 q4;generalize wr.alloc (.cells #[.int .i64 m.zRT,.int .i64 m.time,.int .i64 m.rs,.int .i64 m.rb,.slice ad m.dn cd] 224)=W2 at HV eA lA ⊢;generalize wr.heap.size=V at HV ⊢;obtain⟨⟨y0,-⟩,-⟩:=HV.out;go_region_held3 (fun w'=>w'.cell? ⟨V,0,none⟩=some (.int .i64 m.zRT)) (go_keep)
   (first | (go_at_call 190;refine(zBg lo hi W A m.zRT _ ?_ HD.out rA.out hp).mono ?_;(exact eA.out.zRJ (Below.refl _ _).drew);rintro e w6 ⟨aa,ca,rfl,vA,fA⟩;have pA:=fun w=>(zDZ (.slice aa (zN W m.zRT).dn ca) (zN W m.zRT) w).1;obtain⟨⟨z0,_⟩,_⟩:=HV.out.zRJ (zK fA)))
  have nA:=qi lA fA;clear fA vA pA z0 y0 eA;by_cases he:(zN W m.zRT).id=m.zRT
  ·have hd:((zN W m.zRT).id != m.zRT)=false:=(by simp[he]);have He:=zB (iA.out.2 he);clear he;go_wp2;go_roundw
   case rel=>exact⟨k+1,by omega,by go_num,zo bA aA.out He.out,nA⟩
   case measure=>simp[intOf];omega
  ·have hd:((zN W m.zRT).id != m.zRT)=true:=(by simp[he]);have He:=zB (fun h=>he (iA.out.1 h));clear he;go_wp2;go_ret;exact⟨zG.no fun h=>He.out (h k bA),zA dA nA⟩
theorem zMX(v:Value)(n lo hi:Nat)(f g:Nat->Int)(x y:Int)(w:World)(h1:zU w lo hi v n f g) :
  Calls Tryz.prog 228 #[v,.agg #[.int .i64 x,.int .i64 y]] w fun e w'=>∃r:Int,e = .returned (.int .i64 r)/\(0<=r↔PIn n f g x y)/\Below w.heap.size w w':=by
 have Hp:=zB h1;obtain⟨m1,a,c,rfl,mc,-⟩:=id h1;unfold maxLen at m1;clear h1;have ha:=zC w (.cells #[.int .i64 x,.int .i64 y] 61);have HB:=zB (zc.zRL w (.int .i64 x) (.int .i64 y) 61);go_enter Tryz.func228,Tryz.ntmps228;go_wp2
 go_loopw [8] (fun i wr=>∃k:Nat,k<=n/\i = .int .i64 k/\¬PIn k f g x y/\zc wr w.heap.size (.int .i64 x) (.int .i64 y)/\Below w.heap.size w wr) (fun i _=>n - (intOf i).toNat)
 case atStart=>exact⟨0,Nat.zero_le _,rfl,fun ⟨j,hj,_⟩=>absurd hj (Nat.not_lt_zero _),HB.out,ha⟩
 case round=>
  obtain⟨k,hk,rfl,dA,hX,hb⟩:=hrel;have bA:=zB dA;have HX:=zB hX;clear dA hX;obtain⟨⟨x0,x1⟩,⟨x2,x3⟩⟩:=HX.out;by_cases cA:k<n
  ·have eA:(k:Int)<(n:Int):=(by omega);obtain⟨b,off,rfl,q0,q1⟩:=(Hp.out.zRJ hb).zRN cA;by_cases he:f k=x/\g k=y
   ·have H:=zB (show PIn n f g x y from⟨k,cA,he.1,he.2⟩);rw[he.1]at q0;rw[he.2]at q1;clear he;go_wp2
    go_quiet (fail)
    go_wp2;go_ret;exact⟨k,rfl,⟨fun _=>H.out,fun _=>by omega⟩,zg hb _⟩
   ·have H:=zB he;have e0:(x == f k)=false\/(x == f k)=true/\(y == g k)=false:=by
     by_cases h:f k=x
     ·right;refine⟨by simp[h],?_⟩;have:¬y=g k:=fun h'=>he ⟨h,h'.symm⟩
      simp[this]
     ·left;have:¬x=f k:=fun h'=>h h'.symm
      simp[this]
    clear he;rcases e0 with e0 | ⟨e0,e1⟩
    all_goals
     go_wp2
     go_quiet (fail)
     go_wp2;go_roundw
     case rel=>
      refine⟨k+1,by omega,by go_num,?_,HX.out.zRJ (zg (Below.refl _ _) _),zg hb _⟩;rintro⟨j,hj,aA⟩;by_cases e:j=k
      ·subst e;exact H.out ⟨aA.1,aA.2⟩
      ·exact bA.out ⟨j,by omega,aA⟩
     case measure=>simp[intOf];omega
  ·obtain rfl:k=n:=(by omega);go_wp2;go_ret;exact⟨-1,rfl,⟨fun h=>absurd h (by decide),fun h=>absurd h bA.out⟩,hb⟩
theorem zE7(v:Value)(n lo hi:Nat)(f g:Nat->Int)(x y:Int)(w:World)(h1:zU w lo hi v n f g) :
  Calls Tryz.prog 220 #[v,.agg #[.int .i64 x,.int .i64 y]] w fun e w'=>zG (PIn n f g x y) e/\Below w.heap.size w w':=by
 have Hp:=zB h1;clear h1;have ha:=zC w (.cells #[.int .i64 x,.int .i64 y] 61);obtain⟨⟨x0,-⟩,⟨x2,-⟩⟩:=zc.zRL w (.int .i64 x) (.int .i64 y) 61;go_enter Tryz.func220,Tryz.ntmps220;go_wp2_with fail;refine(zMX v n lo hi f g x y _ (Hp.out.zRJ ha)).mono ?_;rintro e w1 ⟨r,rfl,hr,aA⟩;have Hr:=zB hr;have hB:=zA ha aA;clear hr aA x0 x2 ha;go_wp2;go_ret;refine⟨⟨_,rfl,?_⟩,hB⟩;have:=Hr.out;simp only[decide_eq_true_eq];exact this
theorem zL3(v:Value)(n lo hi:Nat)(f g:Nat->Int)(x y:Int)(T:Nat)(w:World)(h1:zU w lo hi v n f g)(hT:w.cell? ⟨T,0,none⟩=some v) :
  Calls Tryz.prog 231 #[.agg #[.int .i64 x,.int .i64 y],.pointer (some ⟨T,0,none⟩)] w fun e w'=>zG (PIn n f g x y) e/\Below w.heap.size w w':=by
 have Hp:=zB h1;obtain⟨m1,a,c,rfl,mc,-⟩:=id h1;clear h1;have ha:=zC w (.cells #[.int .i64 x,.int .i64 y] 61);obtain⟨⟨x0,-⟩,⟨x2,-⟩⟩:=zc.zRL w (.int .i64 x) (.int .i64 y) 61;have cA:=(ha.cell (p:=⟨T,0,none⟩) (zD hT)).trans hT;clear hT;go_enter Tryz.func231,Tryz.ntmps231;go_wp2_with fail;refine(zE7 _ n lo hi f g x y _ (Hp.out.zRJ ha)).mono ?_;rintro e w1 ⟨⟨t1,rfl,bA⟩,aA⟩;have Ht:=zB bA;have hB:=zA ha aA;clear bA aA x0 x2 ha cA;go_wp2;go_ret;exact⟨⟨_,rfl,Ht.out⟩,hB⟩
theorem zM9(v:Value)(n lo hi:Nat)(f g:Nat->Int)(x y:Int)(T:Nat)(w:World)(h1:zU w lo hi v n f g)(hT:w.cell? ⟨T,0,none⟩=some v) :
  Calls Tryz.prog 232 #[.agg #[.int .i64 x,.int .i64 y],.pointer (some ⟨T,0,none⟩)] w fun e w'=>zG (PIn n f g x y) e/\Below w.heap.size w w':=by
 have Hp:=zB h1;obtain⟨m1,a,c,rfl,mc,-⟩:=id h1;clear h1;have ha:=zC w (.cells #[.int .i64 x,.int .i64 y] 61);obtain⟨⟨x0,-⟩,⟨x2,-⟩⟩:=zc.zRL w (.int .i64 x) (.int .i64 y) 61;have cA:=(ha.cell (p:=⟨T,0,none⟩) (zD hT)).trans hT;clear hT;go_enter Tryz.func232,Tryz.ntmps232;go_wp2_with fail;refine(zE7 _ n lo hi f g x y _ (Hp.out.zRJ ha)).mono ?_;rintro e w1 ⟨⟨t1,rfl,bA⟩,aA⟩;have Ht:=zB bA;have hB:=zA ha aA;clear bA aA x0 x2 ha cA;go_wp2;go_ret;exact⟨⟨_,rfl,Ht.out⟩,hB⟩
theorem zBn(v0 v1 v2 v3:Value)(lo hi:Nat)(W:zH)(xs xb:Int)(w:World)(h:zl w lo hi v0 v1 v2 v3 W)(hR:zv W.zRQ)(hT:qG W.zRQ xs xb) :
  Calls Tryz.prog 226 #[zz v0 v1 v2 v3 W,.agg #[.int .i64 xs,.int .i64 xb]] w fun e w'=>∃v,e = .returned v/\zw w' w.heap.size v (zR W.zRQ xs xb)/\Below w.heap.size w w':=by
 have Hp:=zB h;have HR:=zB hR;have HT:=zB (show Nil xs xb\/zr W.zRQ xs xb from hT.imp id (fun h=>h.1.1));obtain⟨m0,a0,c0,rfl,eA,-⟩:=id h.zRQ.1;clear h hR hT;have ha:=zC w (.cells #[.slice a0 W.zRQ.n c0,v1,.int .i64 W.time,.int .i64 W.next,v2,v3] 37);have hB:=zi.zRL w (.slice a0 W.zRQ.n c0) v1 (.int .i64 W.time) (.int .i64 W.next) v2 v3 37;have hz:(w.alloc (.cells #[.slice a0 W.zRQ.n c0,v1,.int .i64 W.time,.int .i64 W.next,v2,v3] 37)).heap.size=w.heap.size+1:=World.size_alloc _ _;have bA:=zC (w.alloc (.cells #[.slice a0 W.zRQ.n c0,v1,.int .i64 W.time,.int .i64 W.next,v2,v3] 37)) (.cells #[.int .i64 xs,.int .i64 xb] 61);have hX:=zc.zRL (w.alloc (.cells #[.slice a0 W.zRQ.n c0,v1,.int .i64 W.time,.int .i64 W.next,v2,v3] 37)) (.int .i64 xs) (.int .i64 xb) 61;rw[hz]at hX;have aA:=zA ha bA;obtain⟨⟨x0,-⟩,⟨x2,-⟩,-⟩:=hB.zRJ bA;obtain⟨⟨y0,-⟩,⟨y2,-⟩⟩:=hX;clear hB ha bA;go_enter Tryz.func226,Tryz.ntmps226;go_wp2_with fail;clear x0 x2 y0 y2;generalize (w.alloc (.cells #[.slice a0 W.zRQ.n c0,v1,.int .i64 W.time,.int .i64 W.next,v2,v3] 37)).alloc (.cells #[.int .i64 xs,.int .i64 xb] 61)=W0 at aA ⊢;refine(zJo W.zRQ HR.out _ lo hi xs xb W0 (Hp.out.zRQ.1.zRJ aA) HT.out).mono ?_;rintro e w1 ⟨v,rfl,hr,cA⟩;have Hr:=zB hr;have hB:=zA aA cA;have dA:=aA.size;clear hr cA;go_wp2;go_ret;exact⟨v,rfl,zw.mono Hr.out dA,hB⟩
theorem zEz(n:Int)(w:World):Calls Tryz.prog 187 #[.int .i64 n] w fun e w'=>zG (zB3 n) e/\w'=w:=by
 by_cases h1:0<=n
 ·by_cases h2:n<=1000000
  ·go_enter Tryz.func187,Tryz.ntmps187;go_wp2;go_ret;exact⟨zG.yes ⟨h1,h2⟩,rfl⟩
  ·go_enter Tryz.func187,Tryz.ntmps187;go_wp2;go_ret;exact⟨zG.no fun h=>by have:=h.2;omega,rfl⟩
 ·go_enter Tryz.func187,Tryz.ntmps187;go_wp2;go_ret;exact⟨zG.no fun h=>by have:=h.1;omega,rfl⟩
theorem zMy(x y t:Int)(T:Nat)(w:World)(hT:w.cell? ⟨T,0,none⟩=some (.int .i64 t)):Calls Tryz.prog 189 #[.agg #[.int .i64 x,.int .i64 y],.pointer (some ⟨T,0,none⟩)] w fun e w'=>zG (t<y) e/\Below w.heap.size w w':=by
 have aA:=zC w (.cells #[.int .i64 x,.int .i64 y] 61);have bA:=(aA.cell (p:=⟨T,0,none⟩) (zD hT)).trans hT;by_cases h:t<y
 ·go_enter Tryz.func189,Tryz.ntmps189;go_wp2;go_ret;exact⟨⟨_,rfl,by simpa using h⟩,aA⟩
 ·go_enter Tryz.func189,Tryz.ntmps189;go_wp2;go_ret;exact⟨⟨_,rfl,by simpa using h⟩,aA⟩
def zDB(l l':List (Int×Int))(w w':World)(v v':Value):Prop:=zw w' w.heap.size v l/\zw w' w.heap.size v' l'/\(∀q,v.ownBlock=some q->v'.ownBlock≠some q)/\Below w.heap.size w w'
theorem zB2{w1 w2:World}{base g aA:Nat}{v v':Value}{l l':List (Int×Int)}{x y:Int}(h':zw w1 base v' l')(ha:∀q,v.ownBlock=some q->v'.ownBlock≠some q)
  (bA:w2.ownsRow base 61 2 (.slice (some ⟨g,0,none⟩) (l.length+1) aA) (l.length+1) (pcl l ++ [.int .i64 x,.int .i64 y])) (hg:w1.grownBy w2 v.ownBlock) (cA:v.ownBlock=some g\/g=w1.heap.size) :
  zw w2 base (.slice (some ⟨g,0,none⟩) (l.length+1) aA) (l ++ [(x,y)])/\zw w2 base v' l'/\(∀q,(Value.slice (some ⟨g,0,none⟩) (l.length+1) aA).ownBlock=some q->v'.ownBlock≠some q):=by
 refine⟨?_,h'.zRR hg (fun q hq e=>ha q e hq),fun q hq e=>?_⟩
 ·unfold zw;rw[zBE,List.length_append];exact bA
 ·simp only[Value.ownBlock,Option.some.injEq]at hq;subst hq;rcases cA with h | h
  ·exact ha _ h e
  ·have:=(h'.lt e).2;omega
theorem zO2(v:Value)(n lo hi T:Nat)(f g:Nat->Int)(t:Int)(w:World)(h1:zU w lo hi v n f g)(hn:n<=200)(hT:w.cell? ⟨T,0,none⟩=some (.int .i64 t)) :
  Calls Tryz.prog 188 #[v,.func (.func 189) #[] #[.pointer (some ⟨T,0,none⟩)]] w fun e w'=>∃vy vo,e = .returned (.tuple #[vy,vo])/\zDB (qd f g t n) (zBf f g t n) w w' vy vo:=by
 have Hp:=zY h1;have HT:=zY hT;obtain⟨m1,a,c,rfl,mc,_⟩:=id h1;clear h1 hT;obtain⟨i0,tA,nA⟩:=Option.map_eq_some_iff.1 zAz;simp only[Prod.mk.injEq]at nA;have HI:=zY (And.intro tA nA);clear tA nA;go_enter Tryz.func188,Tryz.ntmps188;go_wp2
 go_loopw [6,7,12] (fun vy vo i wr=>∃k:Nat,k<=n/\i = .int .i64 k/\zDB (qd f g t k) (zBf f g t k) w wr vy vo) (fun _ _ i _=>n - (intOf i).toNat)
 case atStart=>exact⟨0,Nat.zero_le _,rfl,zw.nil _ _,zw.nil _ _,fun q hq=>by simp[Value.ownBlock]at hq,Below.refl _ _⟩
 case round=>
  obtain⟨k,hk,rfl,hy,ho,pA,hb⟩:=hrel;have Hy:=zY hy;have Ho:=zY ho;have jA:=zY pA;have fB:=zCL f g t k;clear hy ho pA;by_cases dB:k<n
  ·have eB:(k:Int)<(n:Int):=(by omega);obtain⟨b,off,rfl,q0,q1⟩:=(Hp.out.zRJ hb).zRN dB;have gA:=zC wr (.cells #[.int .i64 (f k),.int .i64 (g k)] 61);have HV:=zY (zc.zRL wr (.int .i64 (f k)) (.int .i64 (g k)) 61);have iA:=zA hb gA;have vA:=zY ((iA.cell (p:=⟨T,0,none⟩) (zD HT.out)).trans HT.out);have gB:∀(fn:Fn) (first rA:Array Value) (w:World),(Instr.makeFunc fn first rA).run Tryz.prog w = .ok (.func fn first rA) w:=fun _ _ _ _=>rfl
   go_wp2_with fail;refine(zMy (f k) (g k) t T _ vA.out).mono ?_;rintro e w1 ⟨⟨s,rfl,hs⟩,dA⟩;have cB:=zY ((Hy.out.zRJ gA).zRJ dA);have bB:=zY ((Ho.out.zRJ gA).zRJ dA);have aB:=zY (HV.out.zRJ dA);have sA:=zA iA dA;clear dA iA gA Hy Ho HV q0 q1 vA;have iB:=sA.size;obtain⟨⟨x0,x1⟩,⟨x2,x3⟩⟩:=aB.out;have eA:=zC w1 (.cells #[.int .i64 (f k),.int .i64 (g k)] 61);have oA:=zY (cB.out.zRJ eA);have mA:=zY (bB.out.zRJ eA);have fA:=zA sA eA;have jB:(w1.alloc (.cells #[.int .i64 (f k),.int .i64 (g k)] 61)).heap.size=w1.heap.size+1:=World.size_alloc _ _;have HN:=zY (World.news_of_block (heap_alloc_last w1 (.cells #[.int .i64 (f k),.int .i64 (g k)] 61)));clear eA;by_cases hq:t<g k
   ·obtain rfl:s=true:=hs.2 hq;have ey:qd f g t (k+1)=qd f g t k ++ [(f k,g k)]:=if_pos hq;have eo:zBf f g t (k+1)=zBf f g t k:=if_pos hq;clear hs hq;go_wp2_with (first
     | (at_builtin;refine wpList_append_lies _ rfl _ _ 62 rfl w.heap.size 61 i0 (.agg #[.int .i64 0,.int .i64 0]) 2 16 (by kernel_rfl) HI.out.1 HI.out.2.1 HI.out.2.2.1 HI.out.2.2.2 rfl (by decide) _ _ _ rfl oA.out ⟨w1.heap.size,0,none⟩ 1 1 [.int .i64 (f k),.int .i64 (g k)] rfl rfl HN.out (by simp[Value.oneCell']) (by decide) (by unfold maxLen;omega) (by omega) (by omega) _ rfl ?_;intro g' lA w4 bA aA cA kA)
     | go_in)
    go_roundw
    case rel=>
     obtain⟨r1,r2,r3⟩:=zB2 mA.out jA.out bA aA cA;exact⟨k+1,by omega,by go_num,by rw[ey];exact r1,by rw[eo];exact r2,r3,fA.grown aA fA.size (fun q hq=>(oA.out.lt hq).1)⟩
    case measure=>simp[intOf];omega
   ·obtain rfl:s=false:=zQ hs hq;have ey:qd f g t (k+1)=qd f g t k:=if_neg hq;have eo:zBf f g t (k+1)=zBf f g t k ++ [(f k,g k)]:=if_neg hq;clear hs hq;go_wp2_with (first
     | (at_builtin;refine wpList_append_lies _ rfl _ _ 62 rfl w.heap.size 61 i0 (.agg #[.int .i64 0,.int .i64 0]) 2 16 (by kernel_rfl) HI.out.1 HI.out.2.1 HI.out.2.2.1 HI.out.2.2.2 rfl (by decide) _ _ _ rfl mA.out ⟨w1.heap.size,0,none⟩ 1 1 [.int .i64 (f k),.int .i64 (g k)] rfl rfl HN.out (by simp[Value.oneCell']) (by decide) (by unfold maxLen;omega) (by omega) (by omega) _ rfl ?_;intro g' lA w4 bA aA cA kA)
     | go_in)
    go_roundw
    case rel=>
     obtain⟨r1,r2,r3⟩:=zB2 oA.out (fun q h h'=>jA.out q h' h) bA aA cA;exact⟨k+1,by omega,by go_num,by rw[ey];exact r2,by rw[eo];exact r1,fun q h h'=>r3 q h' h,fA.grown aA fA.size (fun q hq=>(mA.out.lt hq).1)⟩
    case measure=>simp[intOf];omega
  ·obtain rfl:k=n:=(by omega);go_wp2
   go_ret2
   exact⟨_,_,rfl,Hy.out,Ho.out,jA.out,hb⟩
def zQn(n:Nat)(f g:Nat->Int)(t:Int)(l:List (Int×Int)):Prop:=(qx n f g/\zB3 t->l=qd f g t n)/\(¬(qx n f g/\zB3 t)->l = [])
def zQe(n:Nat)(f g:Nat->Int)(t:Int)(l:List (Int×Int)):Prop:=(qx n f g/\zB3 t->l=zBf f g t n)/\(¬(qx n f g/\zB3 t)->l = [])
def zP3(n:Nat)(f g:Nat->Int)(t:Int)(w:World)(e:Ending)(w':World):Prop:=∃vy vo l l',e = .returned (.agg #[vy,vo])/\zQn n f g t l/\zQe n f g t l'/\zDB l l' w w' vy vo
theorem zA1(v:Value)(n lo hi:Nat)(f g:Nat->Int)(t:Int)(w:World)(h1:zU w lo hi v n f g) :
  Calls Tryz.prog 151 #[v,.int .i64 t] w (zP3 n f g t w):=by
 have Hp:=zY h1;obtain⟨m1,a,c,rfl,mc,_⟩:=id h1;clear h1;have oA:∀(fn:Fn) (first kA:Array Value) (w:World),(Instr.makeFunc fn first kA).run Tryz.prog w = .ok (.func fn first kA) w:=fun _ _ _ _=>rfl
 have ha:=zC w (.cells #[.int .i64 t] 2);have iA:=zC (w.alloc (.cells #[.int .i64 t] 2)) (.cells #[.slice none 0 0,.slice none 0 0] 201);have hA:=zA ha iA;have HT:=zY (show zX ((w.alloc (.cells #[.int .i64 t] 2)).alloc (.cells #[.slice none 0 0,.slice none 0 0] 201)) w.heap.size 0 (.int .i64 t)from zX.zRJ ⟨by rw[World.cell?_alloc_at _ _ _ _ rfl];rfl,World.frozen?_alloc_at _ _ _ _ rfl⟩ iA);have HR:=zY (zc.zRL (w.alloc (.cells #[.int .i64 t] 2)) (.slice none 0 0) (.slice none 0 0) 201);rw[World.size_alloc]at HR;clear ha iA;by_cases ho:qx n f g
 ·have Ho:=zY ho;clear ho;by_cases hq:zB3 t
  ·have Hq:=zY hq;clear hq;go_enter Tryz.func151,Tryz.ntmps151;go_wp2_with fail;generalize (w.alloc (.cells #[.int .i64 t] 2)).alloc (.cells #[.slice none 0 0,.slice none 0 0] 201)=W at HT HR hA ⊢;refine(qj _ n lo hi f g _ (Hp.out.zRJ hA)).mono ?_;rintro e w1 ⟨⟨s,rfl,hs⟩,aA⟩;obtain rfl:s=true:=hs.2 Ho.out;have eA:=zY (HT.out.zRJ aA);have dA:=zY (HR.out.zRJ aA);have cA:=zA hA aA;clear hs aA hA HT HR;obtain⟨x0,x1⟩:=eA.out;go_wp2_with (first
    | (go_at_call 187;refine(zEz t _).mono ?_;rintro e w2 ⟨⟨s,rfl,hs⟩,rfl⟩;obtain rfl:s=true:=hs.2 Hq.out;clear hs)
    | fail)
   go_wp2_with fail;refine(zO2 _ n lo hi w.heap.size f g t _ (Hp.out.zRJ cA) Ho.out.1 eA.out.1).mono ?_;rintro e w3 ⟨vy,vo,rfl,bA⟩;have gA:=bA.2.2.2;have nA:=zW bA.1;have jA:=zW bA.2.1;obtain⟨ya,yc,rfl,_⟩:=nA;obtain⟨oa,oc,rfl,_⟩:=jA;have lA:=zY (dA.out.zRJ gA);have HN:=zY bA;have fA:w.heap.size+1<w2.heap.size:=dA.out.1.lt;have mA:=zA cA gA;clear bA gA x0 x1 eA dA;obtain⟨⟨x0,x1⟩,⟨x2,x3⟩⟩:=lA.out;go_wp2;refine bodyPost_ret (v:=.agg #[.slice ya (qd f g t n).length yc,.slice oa (zBf f g t n).length oc]) (by simp[results,Tryz.results151,go_sem, *]) rfl ?_;refine⟨_,_,qd f g t n,zBf f g t n,rfl,⟨fun _=>rfl,fun h=>absurd ⟨Ho.out,Hq.out⟩ h⟩,⟨fun _=>rfl,fun h=>absurd ⟨Ho.out,Hq.out⟩ h⟩,?_,?_,HN.out.2.2.1,(mA.setCell (by show w.heap.size<=w.heap.size+1;omega) _).setCell (by show w.heap.size<=w.heap.size+1;omega) _⟩
   ·exact(((zw.put HN.out.1 fA _).put fA _)).mono cA.size
   ·exact(((zw.put HN.out.2.1 fA _).put fA _)).mono cA.size
  ·have Hq:=zY hq;clear hq;go_enter Tryz.func151,Tryz.ntmps151;go_wp2_with fail;generalize (w.alloc (.cells #[.int .i64 t] 2)).alloc (.cells #[.slice none 0 0,.slice none 0 0] 201)=W at HT HR hA ⊢;refine(qj _ n lo hi f g _ (Hp.out.zRJ hA)).mono ?_;rintro e w1 ⟨⟨s,rfl,hs⟩,aA⟩;obtain rfl:s=true:=hs.2 Ho.out;have eA:=zY (HT.out.zRJ aA);have dA:=zY (HR.out.zRJ aA);have cA:=zA hA aA;clear hs aA hA HT HR;obtain⟨x0,x1⟩:=eA.out;obtain⟨⟨y0,y1⟩,⟨y2,y3⟩⟩:=dA.out;go_wp2_with (first
    | (go_at_call 187;refine(zEz t _).mono ?_;rintro e w2 ⟨⟨s,rfl,hs⟩,rfl⟩;obtain rfl:s=false:=zQ hs Hq.out;clear hs)
    | fail)
   go_wp2;refine bodyPost_ret (v:=.agg #[.slice none 0 0,.slice none 0 0]) (by simp[results,Tryz.results151,go_sem, *]) rfl ?_;exact⟨_,_,[],[],rfl,⟨fun h=>absurd h.2 Hq.out,fun _=>rfl⟩,⟨fun h=>absurd h.2 Hq.out,fun _=>rfl⟩,zw.nil _ _,zw.nil _ _,fun q hq=>by simp[Value.ownBlock]at hq,(cA.setCell (by show w.heap.size<=w.heap.size+1;omega) _).setCell (by show w.heap.size<=w.heap.size+1;omega) _⟩
 ·have Ho:=zY ho;clear ho;go_enter Tryz.func151,Tryz.ntmps151;go_wp2_with fail;generalize (w.alloc (.cells #[.int .i64 t] 2)).alloc (.cells #[.slice none 0 0,.slice none 0 0] 201)=W at HT HR hA ⊢;refine(qj _ n lo hi f g _ (Hp.out.zRJ hA)).mono ?_;rintro e w1 ⟨⟨s,rfl,hs⟩,aA⟩;obtain rfl:s=false:=zQ hs Ho.out;have dA:=zY (HR.out.zRJ aA);have cA:=zA hA aA;clear hs aA hA HT HR;obtain⟨⟨y0,y1⟩,⟨y2,y3⟩⟩:=dA.out;go_wp2;refine bodyPost_ret (v:=.agg #[.slice none 0 0,.slice none 0 0]) (by simp[results,Tryz.results151,go_sem, *]) rfl ?_;exact⟨_,_,[],[],rfl,⟨fun h=>absurd h.1 Ho.out,fun _=>rfl⟩,⟨fun h=>absurd h.1 Ho.out,fun _=>rfl⟩,zw.nil _ _,zw.nil _ _,fun q hq=>by simp[Value.ownBlock]at hq,(cA.setCell (by show w.heap.size<=w.heap.size+1;omega) _).setCell (by show w.heap.size<=w.heap.size+1;omega) _⟩
theorem zK0{l m:List (Int×Int)}{k:Nat}(hk:k<l.length)(h:(zf l k,zh l k)∈m):qQ (l.take (k+1)) m=qQ (l.take k) m ++ [(zf l k,zh l k)]:=by
 unfold zf zh at h ⊢;rw[yE hk]at h ⊢;unfold qQ;rw[List.take_succ_eq_append_getElem hk,List.filter_append,List.filter_cons];simp only[List.filter_nil];rw[if_pos (by simp;exact h)]
theorem zNY{l m:List (Int×Int)}{k:Nat}(hk:k<l.length)(h:(zf l k,zh l k)∉m):qQ (l.take (k+1)) m=qQ (l.take k) m:=by
 unfold zf zh at h;rw[yE hk]at h;unfold qQ;rw[List.take_succ_eq_append_getElem hk,List.filter_append,List.filter_cons];simp only[List.filter_nil];rw[if_neg (by simp;exact h),List.append_nil]
theorem zLk(l m:List (Int×Int))(k:Nat):(qQ (l.take k) m).length<=k/\(zAP (l.take k) m).length<=k:=by
 refine⟨?_,zLD l m k⟩;unfold qQ;exact Nat.le_trans (List.length_filter_le _ _) (by rw[List.length_take];omega)
theorem zC3(v v2:Value)(lo hi eB vA T:Nat)(l m:List (Int×Int))(w:World)(h1:zU w lo hi v l.length (zf l) (zh l))(hn:l.length<=200)(h2:zU w eB vA v2 m.length (zf m) (zh m))(hT:w.cell? ⟨T,0,none⟩=some v2) :
  Calls Tryz.prog 188 #[v,.func (.func 231) #[] #[.pointer (some ⟨T,0,none⟩)]] w fun e w'=>∃vy vo,e = .returned (.tuple #[vy,vo])/\zDB (qQ l m) (zAP l m) w w' vy vo:=by
 have Hp:=zY h1;have HT:=zY hT;have kB:=zY h2;obtain⟨m1,a,c,rfl,mc,_⟩:=id h1;clear h1 hT h2;unfold maxLen at m1;obtain⟨i0,cB,rA⟩:=Option.map_eq_some_iff.1 zAz;simp only[Prod.mk.injEq]at rA;have HI:=zY (And.intro cB rA);clear cB rA;go_enter Tryz.func188,Tryz.ntmps188;go_wp2
 go_loopw [6,7,12] (fun vy vo i wr=>∃k:Nat,k<=l.length/\i = .int .i64 k/\zDB (qQ (l.take k) m) (zAP (l.take k) m) w wr vy vo) (fun _ _ i _=>l.length - (intOf i).toNat)
 case atStart=>exact⟨0,Nat.zero_le _,rfl,zw.nil _ _,zw.nil _ _,fun q hq=>by simp[Value.ownBlock]at hq,Below.refl _ _⟩
 case round=>
  obtain⟨k,hk,rfl,hy,ho,tA,hb⟩:=hrel;have Hy:=zY hy;have Ho:=zY ho;have lA:=zY tA;have mB:=zLk l m k;clear hy ho tA;by_cases eA:k<l.length
  ·have lB:(k:Int)<(l.length:Int):=(by omega);obtain⟨b,off,rfl,q0,q1⟩:=(Hp.out.zRJ hb).zRN eA;have jA:=zC wr (.cells #[.int .i64 (zf l k),.int .i64 (zh l k)] 61);have HV:=zY (zc.zRL wr (.int .i64 (zf l k)) (.int .i64 (zh l k)) 61);have fA:=zA hb jA;have dB:=zY ((fA.cell (p:=⟨T,0,none⟩) (zD HT.out)).trans HT.out);have fB:=zY (kB.out.zRJ fA);have nB:∀(fn:Fn) (first aB:Array Value) (w:World),(Instr.makeFunc fn first aB).run Tryz.prog w = .ok (.func fn first aB) w:=fun _ _ _ _=>rfl
   go_wp2_with fail;refine(zL3 v2 m.length eB vA (zf m) (zh m) (zf l k) (zh l k) T _ fB.out dB.out).mono ?_;rintro e w1 ⟨⟨s,rfl,hs⟩,dA⟩;have jB:=zY ((Hy.out.zRJ jA).zRJ dA);have iB:=zY ((Ho.out.zRJ jA).zRJ dA);have gB:=zY (HV.out.zRJ dA);have bB:=zA fA dA;clear dA fA jA Hy Ho HV q0 q1 dB fB;have oB:=bB.size;obtain⟨⟨x0,x1⟩,⟨x2,x3⟩⟩:=gB.out;have gA:=zC w1 (.cells #[.int .i64 (zf l k),.int .i64 (zh l k)] 61);have sA:=zY (jB.out.zRJ gA);have oA:=zY (iB.out.zRJ gA);have iA:=zA bB gA;have pB:(w1.alloc (.cells #[.int .i64 (zf l k),.int .i64 (zh l k)] 61)).heap.size=w1.heap.size+1:=World.size_alloc _ _;have HN:=zY (World.news_of_block (heap_alloc_last w1 (.cells #[.int .i64 (zf l k),.int .i64 (zh l k)] 61)));clear gA;by_cases hq:(zf l k,zh l k)∈m
   ·obtain rfl:s=true:=hs.2 (zBS.2 hq);have ey:=zY (zK0 eA hq);have eo:=zY (zJ1 eA hq);clear hs hq;go_wp2_with (first
     | (at_builtin;refine wpList_append_lies _ rfl _ _ 62 rfl w.heap.size 61 i0 (.agg #[.int .i64 0,.int .i64 0]) 2 16 (by kernel_rfl) HI.out.1 HI.out.2.1 HI.out.2.2.1 HI.out.2.2.2 rfl (by decide) _ _ _ rfl sA.out ⟨w1.heap.size,0,none⟩ 1 1 [.int .i64 (zf l k),.int .i64 (zh l k)] rfl rfl HN.out (by simp[Value.oneCell']) (by decide) (by unfold maxLen;omega) (by omega) (by omega) _ rfl ?_;intro g' nA w4 bA aA cA mA)
     | go_in)
    go_roundw
    case rel=>
     obtain⟨r1,r2,r3⟩:=zB2 oA.out lA.out bA aA cA;exact⟨k+1,by omega,by go_num,by rw[ey.out];exact r1,by rw[eo.out];exact r2,r3,iA.grown aA iA.size (fun q hq=>(sA.out.lt hq).1)⟩
    case measure=>simp[intOf];omega
   ·obtain rfl:s=false:=zQ hs (fun h=>hq (zBS.1 h));have ey:=zY (zNY eA hq);have eo:=zY (zHs eA hq);clear hs hq;go_wp2_with (first
     | (at_builtin;refine wpList_append_lies _ rfl _ _ 62 rfl w.heap.size 61 i0 (.agg #[.int .i64 0,.int .i64 0]) 2 16 (by kernel_rfl) HI.out.1 HI.out.2.1 HI.out.2.2.1 HI.out.2.2.2 rfl (by decide) _ _ _ rfl oA.out ⟨w1.heap.size,0,none⟩ 1 1 [.int .i64 (zf l k),.int .i64 (zh l k)] rfl rfl HN.out (by simp[Value.oneCell']) (by decide) (by unfold maxLen;omega) (by omega) (by omega) _ rfl ?_;intro g' nA w4 bA aA cA mA)
     | go_in)
    go_roundw
    case rel=>
     obtain⟨r1,r2,r3⟩:=zB2 sA.out (fun q h h'=>lA.out q h' h) bA aA cA;exact⟨k+1,by omega,by go_num,by rw[ey.out];exact r2,by rw[eo.out];exact r1,fun q h h'=>r3 q h' h,iA.grown aA iA.size (fun q hq=>(oA.out.lt hq).1)⟩
    case measure=>simp[intOf];omega
  ·obtain rfl:k=l.length:=(by omega);have kA:=Hy.out;have pA:=Ho.out;rw[List.take_length]at kA pA;have HY:=zY kA;have HO:=zY pA;clear kA pA Hy Ho;go_wp2
   go_ret2
   exact⟨_,_,rfl,HY.out,HO.out,lA.out,hb⟩
theorem zDa(v v2:Value)(lo hi eB vA T:Nat)(l m:List (Int×Int))(w:World)(h1:zU w lo hi v l.length (zf l) (zh l))(hn:l.length<=200)(h2:zU w eB vA v2 m.length (zf m) (zh m))(hT:w.cell? ⟨T,0,none⟩=some v2) :
  Calls Tryz.prog 188 #[v,.func (.func 232) #[] #[.pointer (some ⟨T,0,none⟩)]] w fun e w'=>∃vy vo,e = .returned (.tuple #[vy,vo])/\zDB (qQ l m) (zAP l m) w w' vy vo:=by
 have Hp:=zY h1;have HT:=zY hT;have kB:=zY h2;obtain⟨m1,a,c,rfl,mc,_⟩:=id h1;clear h1 hT h2;unfold maxLen at m1;obtain⟨i0,cB,rA⟩:=Option.map_eq_some_iff.1 zAz;simp only[Prod.mk.injEq]at rA;have HI:=zY (And.intro cB rA);clear cB rA;go_enter Tryz.func188,Tryz.ntmps188;go_wp2
 go_loopw [6,7,12] (fun vy vo i wr=>∃k:Nat,k<=l.length/\i = .int .i64 k/\zDB (qQ (l.take k) m) (zAP (l.take k) m) w wr vy vo) (fun _ _ i _=>l.length - (intOf i).toNat)
 case atStart=>exact⟨0,Nat.zero_le _,rfl,zw.nil _ _,zw.nil _ _,fun q hq=>by simp[Value.ownBlock]at hq,Below.refl _ _⟩
 case round=>
  obtain⟨k,hk,rfl,hy,ho,tA,hb⟩:=hrel;have Hy:=zY hy;have Ho:=zY ho;have lA:=zY tA;have mB:=zLk l m k;clear hy ho tA;by_cases eA:k<l.length
  ·have lB:(k:Int)<(l.length:Int):=(by omega);obtain⟨b,off,rfl,q0,q1⟩:=(Hp.out.zRJ hb).zRN eA;have jA:=zC wr (.cells #[.int .i64 (zf l k),.int .i64 (zh l k)] 61);have HV:=zY (zc.zRL wr (.int .i64 (zf l k)) (.int .i64 (zh l k)) 61);have fA:=zA hb jA;have dB:=zY ((fA.cell (p:=⟨T,0,none⟩) (zD HT.out)).trans HT.out);have fB:=zY (kB.out.zRJ fA);have nB:∀(fn:Fn) (first aB:Array Value) (w:World),(Instr.makeFunc fn first aB).run Tryz.prog w = .ok (.func fn first aB) w:=fun _ _ _ _=>rfl
   go_wp2_with fail;refine(zM9 v2 m.length eB vA (zf m) (zh m) (zf l k) (zh l k) T _ fB.out dB.out).mono ?_;rintro e w1 ⟨⟨s,rfl,hs⟩,dA⟩;have jB:=zY ((Hy.out.zRJ jA).zRJ dA);have iB:=zY ((Ho.out.zRJ jA).zRJ dA);have gB:=zY (HV.out.zRJ dA);have bB:=zA fA dA;clear dA fA jA Hy Ho HV q0 q1 dB fB;have oB:=bB.size;obtain⟨⟨x0,x1⟩,⟨x2,x3⟩⟩:=gB.out;have gA:=zC w1 (.cells #[.int .i64 (zf l k),.int .i64 (zh l k)] 61);have sA:=zY (jB.out.zRJ gA);have oA:=zY (iB.out.zRJ gA);have iA:=zA bB gA;have pB:(w1.alloc (.cells #[.int .i64 (zf l k),.int .i64 (zh l k)] 61)).heap.size=w1.heap.size+1:=World.size_alloc _ _;have HN:=zY (World.news_of_block (heap_alloc_last w1 (.cells #[.int .i64 (zf l k),.int .i64 (zh l k)] 61)));clear gA;by_cases hq:(zf l k,zh l k)∈m
   ·obtain rfl:s=true:=hs.2 (zBS.2 hq);have ey:=zY (zK0 eA hq);have eo:=zY (zJ1 eA hq);clear hs hq;go_wp2_with (first
     | (at_builtin;refine wpList_append_lies _ rfl _ _ 62 rfl w.heap.size 61 i0 (.agg #[.int .i64 0,.int .i64 0]) 2 16 (by kernel_rfl) HI.out.1 HI.out.2.1 HI.out.2.2.1 HI.out.2.2.2 rfl (by decide) _ _ _ rfl sA.out ⟨w1.heap.size,0,none⟩ 1 1 [.int .i64 (zf l k),.int .i64 (zh l k)] rfl rfl HN.out (by simp[Value.oneCell']) (by decide) (by unfold maxLen;omega) (by omega) (by omega) _ rfl ?_;intro g' nA w4 bA aA cA mA)
     | go_in)
    go_roundw
    case rel=>
     obtain⟨r1,r2,r3⟩:=zB2 oA.out lA.out bA aA cA;exact⟨k+1,by omega,by go_num,by rw[ey.out];exact r1,by rw[eo.out];exact r2,r3,iA.grown aA iA.size (fun q hq=>(sA.out.lt hq).1)⟩
    case measure=>simp[intOf];omega
   ·obtain rfl:s=false:=zQ hs (fun h=>hq (zBS.1 h));have ey:=zY (zNY eA hq);have eo:=zY (zHs eA hq);clear hs hq;go_wp2_with (first
     | (at_builtin;refine wpList_append_lies _ rfl _ _ 62 rfl w.heap.size 61 i0 (.agg #[.int .i64 0,.int .i64 0]) 2 16 (by kernel_rfl) HI.out.1 HI.out.2.1 HI.out.2.2.1 HI.out.2.2.2 rfl (by decide) _ _ _ rfl oA.out ⟨w1.heap.size,0,none⟩ 1 1 [.int .i64 (zf l k),.int .i64 (zh l k)] rfl rfl HN.out (by simp[Value.oneCell']) (by decide) (by unfold maxLen;omega) (by omega) (by omega) _ rfl ?_;intro g' nA w4 bA aA cA mA)
     | go_in)
    go_roundw
    case rel=>
     obtain⟨r1,r2,r3⟩:=zB2 sA.out (fun q h h'=>lA.out q h' h) bA aA cA;exact⟨k+1,by omega,by go_num,by rw[ey.out];exact r2,by rw[eo.out];exact r1,fun q h h'=>r3 q h' h,iA.grown aA iA.size (fun q hq=>(oA.out.lt hq).1)⟩
    case measure=>simp[intOf];omega
  ·obtain rfl:k=l.length:=(by omega);have kA:=Hy.out;have pA:=Ho.out;rw[List.take_length]at kA pA;have HY:=zY kA;have HO:=zY pA;clear kA pA Hy Ho;go_wp2
   go_ret2
   exact⟨_,_,rfl,HY.out,HO.out,lA.out,hb⟩
theorem yh(v v':Value)(n lo hi n' lo' hi':Nat)(f g f' g':Nat->Int)(w:World)(h1:zU w lo hi v n f g)(h2:zU w lo' hi' v' n' f' g') :
  Calls Tryz.prog 233 #[v,v'] w fun e w'=>zG (zEU n f g n' f' g') e/\Below w.heap.size w w':=by
 have Hp:=zY h1;have pA:=zY h2;obtain⟨m1,a,c,rfl,mc,_⟩:=id h1;obtain⟨m2,a',c',rfl,gB,_⟩:=id h2;unfold maxLen at m1 m2;clear h1 h2;by_cases ho:qx n f g
 ·have Ho:=zY ho;clear ho;by_cases oA:qx n' f' g'
  ·have cA:=zY oA;clear oA;go_enter Tryz.func233,Tryz.ntmps233;go_wp2_with fail;refine(qj _ n lo hi f g _ Hp.out).mono ?_;rintro e w1 ⟨⟨t,rfl,ht⟩,bA⟩;obtain rfl:t=true:=ht.2 Ho.out;clear ht;go_wp2_with fail;refine(qj _ n' lo' hi' f' g' _ (pA.out.zRJ bA)).mono ?_;rintro e w2 ⟨⟨t,rfl,ht⟩,mA⟩;obtain rfl:t=true:=ht.2 cA.out;have iA:=zA bA mA;clear ht bA mA;go_wp2_with fail;refine(zE9 _ n lo hi f g _ (Hp.out.zRJ iA) Ho.out.1 Ho.out.2.1).mono ?_;rintro e w3 ⟨rfl,hm,bB⟩;have Hm:=zY hm;have aB:=zA iA bB;have hz:w.heap.size<=w2.heap.size:=iA.size;clear hm bB iA;go_wp2
   go_loopw [20] (fun i wr=>∃(k:Nat) (D:DataW Unit),k<=n'/\i = .int .i64 k/\zOm wr w2.heap.size n D/\zDK n f g f' k D/\(∀j,j<k->PIn n f g (f' j) (g' j))/\Below w.heap.size w wr) (fun i _=>n' - (intOf i).toNat)
   case atStart=>exact⟨0,_,Nat.zero_le _,rfl,Hm.out,zDK.start Ho.out f',fun j hj=>absurd hj (Nat.not_lt_zero _),aB⟩
   case round=>
    obtain⟨k,D,hk,rfl,kA,eA,tA,hb⟩:=hrel;have dA:=zY kA;have aA:=zY eA;have sA:=zY tA;clear kA eA tA Hm aB;by_cases gA:k<n'
    ·have dB:(k:Int)<(n':Int):=(by omega);obtain⟨b,off,rfl,q0,q1⟩:=(pA.out.zRJ hb).zRN gA;have lA:keyOf Tryz.prog 2 (.int .i64 (f' k))=some (zBz (f' k)):=keyOf_int_mk zQJ (zHW (cA.out.2.1 k gA).1 (by have:=(cA.out.2.1 k gA).2.1;omega));have jA:=zY lA;clear lA;have bA:=hb.alloc hb.size (.cells #[.int .i64 (f' k),.int .i64 (g' k)] 61);have eB:w2.heap.size<=wr.heap.size:=Nat.le_of_lt dA.out.lt;go_wp2_with (first
      | (at_lookup;refine wpList_lookup_own_int _ rfl _ _ 243 rfl 2 2 .i64 zQh zPT zQJ (zQ5 _) w2.heap.size n D rfl (dA.out.alloc _) _ _ rfl jA.out ?_;intro c0 rA fB)
      | (at_delete;refine wpList_delete_own _ rfl _ _ 243 2 rfl 2 zQh zPT _ w2.heap.size n D rfl (dA.out.alloc _) _ _ rfl jA.out ?_;intro w4 nA fA)
      | go_in)
     ·have cB:c0≠g' k:=by
       have h:(c0 != g' k)=true:=(by assumption);simpa using h
      go_ret;exact⟨zG.no (aA.out.no Ho.out cA.out gA (show D.atKey (zBz (f' k)) (zDV 0)=zDV c0 from rA) cB),bA⟩
     ·have he:c0=g' k:=by
       have h:(c0 != g' k)=false:=(by assumption);simpa using h
      subst he;have vA:D.atKey (zBz (f' k)) (zDV 0)=zDV (g' k):=rA;go_roundw
      case rel=>exact⟨k+1,_,by omega,by go_num,nA,aA.out.next cA.out gA vA,zo gA sA.out (aA.out.in cA.out gA vA),bA.grown fA.grown bA.size (fun j hj=>by cases hj;exact hz)⟩
      case measure=>simp[intOf];omega
    ·obtain rfl:k=n':=(by omega);go_wp2_with (first
      | (at_len;refine wpList_len_own _ rfl _ 243 rfl 2 2 zPT _ w2.heap.size n D rfl dA.out ?_)
      | go_in)
     go_ret;refine⟨⟨_,rfl,?_⟩,hb⟩;have He:=aA.out.end Ho.out cA.out sA.out;rw[<-He];simp
  ·have cA:=zY oA;clear oA;go_enter Tryz.func233,Tryz.ntmps233;go_wp2_with fail;refine(qj _ n lo hi f g _ Hp.out).mono ?_;rintro e w1 ⟨⟨t,rfl,ht⟩,bA⟩;obtain rfl:t=true:=ht.2 Ho.out;clear ht;go_wp2_with fail;refine(qj _ n' lo' hi' f' g' _ (pA.out.zRJ bA)).mono ?_;rintro e w2 ⟨⟨t,rfl,ht⟩,mA⟩;obtain rfl:t=false:=zQ ht cA.out;have iA:=zA bA mA;clear ht bA mA;go_wp2;go_ret;exact⟨zG.no fun h=>cA.out h.2.1,iA⟩
 ·have Ho:=zY ho;clear ho;go_enter Tryz.func233,Tryz.ntmps233;go_wp2_with fail;refine(qj _ n lo hi f g _ Hp.out).mono ?_;rintro e w1 ⟨⟨t,rfl,ht⟩,bA⟩;obtain rfl:t=false:=zQ ht Ho.out;clear ht;go_wp2;go_ret;exact⟨zG.no fun h=>Ho.out h.1,bA⟩
end Go.Proofs.YtmgeglgboadfiaaGreatDoor
